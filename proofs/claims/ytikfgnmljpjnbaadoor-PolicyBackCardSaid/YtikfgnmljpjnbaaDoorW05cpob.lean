/-
 Layer 5: a reader of fields.
-/
import Derived.Test.YtikfgnmljpjnbaaDoorW05bpob
import Derived.Laws.BitsAllLaws
namespace Go.Proofs.YtikfgnmljpjnbaaDoor
open Go.RowKit Go.Extern.Stop Go.Stop Go.Extern
set_option linter.unusedVariables false
set_option linter.unusedSimpArgs false
def beV (l : List UInt8) : Nat := l.foldl (fun a x => a * 256 + x.toNat) 0
def leV (l : List UInt8) : Nat := beV l.reverse
theorem beV_snoc (l : List UInt8) (x : UInt8) : beV (l ++ [x]) = beV l * 256 + x.toNat := by simp [beV]
theorem foldl_be (l : List UInt8) : ∀ a, l.foldl (fun a x => a * 256 + x.toNat) a = a * 256 ^ l.length + beV l := by
 induction l with
 | nil => intro a; simp [beV]
 | cons x l ih =>
   intro a
   have h1 := ih (a * 256 + x.toNat)
   have h2 := ih (0 * 256 + x.toNat)
   simp only [List.foldl_cons, List.length_cons]
   rw [h1]
   show _ = a * 256 ^ (l.length + 1) + List.foldl _ 0 (x :: l)
   simp only [List.foldl_cons]
   rw [h2, Nat.pow_succ, Nat.add_mul, Nat.zero_mul, Nat.zero_add, Nat.mul_assoc, Nat.mul_comm 256]
   omega
theorem beV_cons (x : UInt8) (l : List UInt8) : beV (x :: l) = x.toNat * 256 ^ l.length + beV l := by
 have := foldl_be l (0 * 256 + x.toNat)
 rw [Nat.zero_mul, Nat.zero_add] at this
 show List.foldl _ 0 (x :: l) = _
 simp only [List.foldl_cons]
 rw [Nat.zero_mul, Nat.zero_add]; exact this
theorem beV_lt (l : List UInt8) : beV l < 256 ^ l.length := by
 induction l with
 | nil => simp [beV]
 | cons x l ih =>
   have hx := x.toNat_lt
   rw [beV_cons, List.length_cons, Nat.pow_succ]
   have : x.toNat * 256 ^ l.length ≤ 255 * 256 ^ l.length := Nat.mul_le_mul_right _ (by omega)
   omega
theorem leV_lt (l : List UInt8) : leV l < 256 ^ l.length := by have := beV_lt l.reverse; rwa [List.length_reverse] at this
theorem leV_leB (v n : Nat) : leV (leB v n) = v % 256 ^ n := by
 induction n with
 | zero => simp [leB, leV, beV, Nat.mod_one]
 | succ n ih =>
   unfold leV at ih ⊢
   have e : (leB v (n + 1)).reverse = UInt8.ofNat (v / 256 ^ n) :: (leB v n).reverse := by simp [leB]
   rw [e, beV_cons, ih, List.length_reverse, leB_length, UInt8.toNat_ofNat']
   show v / 256 ^ n % 256 * 256 ^ n + _ = _
   rw [Nat.pow_succ, Nat.mod_mul, Nat.mul_comm]
   omega
theorem shl_or (v : Nat) (x : UInt8) (hv : v < 72057594037927936) : bits BinOp.or IntKind.u64 ((v : Int) * 256) (x.toNat : Int) = ((v * 256 + x.toNat : Nat) : Int) := by
 have hx := x.toNat_lt
 have h := u64_or ((v * 256 : Nat) : Int) (x.toNat : Int) (by omega) (by omega) (by omega) (by omega)
 simp only [Int.toNat_natCast] at h
 have e : v * 256 ||| x.toNat = v * 256 + x.toNat := by
   have := Nat.two_pow_add_eq_or_of_lt (i := 8) (b := x.toNat) (by omega) v
   rw [Nat.mul_comm v 256]
   exact this.symm
 rw [e] at h
 simpa using h
theorem gb_trans {a b c : World} {row : Option Nat} (h : a.grownBy b row) (k : b.grownBy c row) : a.grownBy c row :=
 ⟨k.os.trans h.os, k.tape.trans h.tape, k.output.trans h.output, Nat.le_trans h.size k.size, fun i hi hr => (k.block i (Nat.lt_of_lt_of_le hi h.size) hr).trans (h.block i hi hr)⟩
theorem gb_below {a b : World} {row : Option Nat} (h : Below a.heap.size a b) : a.grownBy b row := ⟨h.os, h.tape, h.output, h.size, fun i hi _ => h.block i hi⟩
theorem gb_set (w : World) (g o : Nat) (u : Value) : w.grownBy (w.setCell ⟨g, o, none⟩ u) (some g) :=
 ⟨rfl, rfl, rfl, by simp, fun i hi hr => Below.heap_setCell _ _ _ _ (by intro e; exact hr (by rw [e]))⟩
def Rdr (w : World) (g : Nat) (l : List UInt8) (sh : Bool) : Prop := ∃ A c, w.heap[g]? = some (.cells #[.slice A l.length c, .bool sh] 176 (0, 0)) ∧ (A = none → c = 0) ∧ l.length ≤ c ∧ Rd w A l ∧ (∀ ad, A = some ad → ad.block < g)
theorem Rdr.lt {w : World} {g : Nat} {l : List UInt8} {sh : Bool} (h : Rdr w g l sh) : g < w.heap.size := by
 obtain ⟨A, c, h0, _⟩ := h
 exact (Array.getElem?_eq_some_iff.1 h0).1
theorem Rdr.keep {w w' : World} {g : Nat} {l : List UInt8} {sh : Bool} {row : Option Nat} (h : Rdr w g l sh) (hg : w.grownBy w' row) (hr : row = none ∨ ∃ r, row = some r ∧ r ≠ g ∧ ∀ A c, w.heap[g]? = some (.cells #[.slice A l.length c, .bool sh] 176 (0, 0)) → ∀ ad, A = some ad → ad.block ≠ r) : Rdr w' g l sh := by
 have hlt := h.lt
 obtain ⟨A, c, h0, h1, h2, h3, h4⟩ := h
 have hne : some g ≠ row := by
   rcases hr with rfl | ⟨r, rfl, hn, _⟩
   · simp
   · intro e; injection e with e; exact hn e.symm
 refine ⟨A, c, (hg.block g hlt hne).trans h0, h1, h2, h3.grown hg fun ad e => ?_, h4⟩
 rcases hr with rfl | ⟨r, rfl, _, hh⟩
 · simp
 · intro e2; injection e2 with e2; exact hh A c h0 ad e e2
theorem Rdr.below {w w' : World} {g : Nat} {l : List UInt8} {sh : Bool} (h : Rdr w g l sh) (hb : Below w.heap.size w w') : Rdr w' g l sh := h.keep (gb_below (row := none) hb) (.inl rfl)
def NewP (w : World) (l : List UInt8) (e : Ending) (w' : World) : Prop := ∃ g, e = .returned (.pointer (some ⟨g, 0, none⟩)) ∧ Rdr w' g l false ∧ w.heap.size ≤ g ∧ Below w.heap.size w w'
set_option maxRecDepth 100000 in
set_option maxHeartbeats 1000000 in
theorem new_c (A : Option Addr) (c : Nat) (l : List UInt8) (w : World) (hrd : Rd w A l) (hcz : A = none → c = 0) (hl : l.length ≤ 140737488355328) :
   Calls Tryd.prog 49 #[.slice A l.length c] w (NewP w l) := by
 obtain ⟨i0, hi, hz0, hz1, hz2⟩ := info_parts infoU8
 go_enter Tryd.func49, Tryd.ntmps49
 go_wp2_with (at_builtin; refine wpList_append_b rfl (.const (.slice none 0 0)) (.tmp 3) 22 rfl w.heap.size 5 i0 (.int .u8 0) Tryd.underlying22 hi hz0 hz1 hz2 rfl (.slice none 0 0) 0 [] rfl (World.ownsRow_nil _ _ _ _) A c l rfl hrd hcz (by omega) (Nat.le_refl _) ?_; intro v1 w1 hown1 hg1 hat1; simp only [Nat.zero_add, List.nil_append] at hown1; obtain ⟨A1, c1, rfl, hz3, hr3, _, hc3⟩ := own_shape hown1)
 go_ret
 have hb1 : Below w.heap.size w w1 := (Below.refl w.heap.size w).grown hg1 (Nat.le_refl _) (fun k hk => by cases hk)
 have hA1 : ∀ ad, A1 = some ad → ad.block < w1.heap.size := fun ad e => (hown1.lt ad.block (by rw [e]; rfl)).2
 refine ⟨w1.heap.size, rfl, ⟨A1, c1, heap_alloc_new w1 _, hz3, hc3, hr3.below ((Below.refl _ _).alloc (Nat.le_refl _) _), hA1⟩, hb1.size, hb1.alloc hb1.size _⟩
end Go.Proofs.YtikfgnmljpjnbaaDoor
