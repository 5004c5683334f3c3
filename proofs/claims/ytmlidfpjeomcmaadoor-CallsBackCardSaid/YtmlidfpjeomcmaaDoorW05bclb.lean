/-
 Layer 5: fields behind bytes.
-/
import Derived.Test.YtmlidfpjeomcmaaDoorW05clb
namespace Go.Proofs.YtmlidfpjeomcmaaDoor
open Go.RowKit Go.Extern.Stop Go.Stop Go.Extern
set_option linter.unusedVariables false
set_option linter.unusedSimpArgs false
theorem number_z (A : Option Addr) (c : Nat) (l : List UInt8) (x z : Int) (v size : Nat) (w : World) (hrd : Rd w A l) (hcz : A = none → c = 0) (hl : l.length ≤ 140737488355000) (hx : x = (v : Int)) (hv : v < 18446744073709551616) (hsz : size ≤ 8) (hz : z = (size : Int)) :
   Calls Tryd.prog 34 #[.slice A l.length c, .int .u64 x, .int .i64 z] w (OwnP w (l ++ leB v size)) := by
 subst hz; exact number_c A c l x v size w hrd hcz hl hx hv hsz
def u64of (x : Int) : Nat := (x % 18446744073709551616).toNat
theorem u64of_wrap (x : Int) : IntKind.u64.wrap x = (u64of x : Int) := by
 rw [show IntKind.u64.wrap x = x % 18446744073709551616 by simp [IntKind.wrap, IntKind.bits, IntKind.signed]]
 unfold u64of; omega
def TextP (w : World) (l : List UInt8) (e : Ending) (w' : World) : Prop := ∃ v, e = .returned (.tuple #[v, .nilIface]) ∧ w'.ownsRow w.heap.size 5 1 v l.length (bv l) ∧ Below w.heap.size w w'
def sB (s : ByteArray) : List UInt8 := s.data.toList
theorem sB_length (s : ByteArray) : (sB s).length = s.size := by simp [sB]
theorem sB_cells (s : ByteArray) : Lib.strCells s = bv (sB s) := rfl
def txt (s : ByteArray) : List UInt8 := leB s.size 1 ++ sB s
set_option maxRecDepth 100000 in
set_option maxHeartbeats 1000000 in
theorem text_ok (A : Option Addr) (c : Nat) (l : List UInt8) (s : ByteArray) (w : World) (hrd : Rd w A l) (hcz : A = none → c = 0) (hl : l.length ≤ 140737488350000) (hs : s.size ≤ 255) :
   Calls Tryd.prog 19 #[.slice A l.length c, .string s] w (TextP w (l ++ txt s)) := by
 obtain ⟨i0, hi, hz0, hz1, hz2⟩ := info_parts infoU8
 go_enter Tryd.func19, Tryd.ntmps19
 go_wp2_with (first | (go_at_call 34; (with_reducible refine (number_z _ _ _ _ _ s.size 1 _ hrd hcz (by omega) (by simp) (by omega) (by decide) (by omega)).mono ?_); rintro e w1 ⟨v1, rfl, hown, hb⟩) | (at_builtin; refine Lib.wpList_append_own_string _ rfl (.tmp 14) (.tmp 15) 22 9 rfl w.heap.size 5 i0 Tryd.underlying22 Tryd.underlying9 hi hz0 hz1 hz2 v1 _ _ rfl hown s rfl (by unfold maxLen; simp [leB_length]; omega) (by simp [leB_length]; omega) hb.size ?_; intro v2 w2 hown2 hg2 hat2))
 go_ret2
 refine ⟨v2, rfl, ?_, hb.grown hg2 hb.size (fun k hk => (hown.lt k hk).1)⟩
 rw [sB_cells, ← bv_append] at hown2
 simpa [txt, leB_length, sB_length, Nat.add_assoc, List.append_assoc] using hown2
theorem text_long (v : Value) (s : ByteArray) (w : World) (hs : 255 < s.size) (hs2 : s.size ≤ 9223372036854775807) :
   Calls Tryd.prog 19 #[v, .string s] w fun e w' => e = .returned (.tuple #[.slice none 0 0, errV 5]) ∧ Below w.heap.size w w' := by
 go_enter Tryd.func19, Tryd.ntmps19
 go_wp2_with (fail)
 go_ret2
 exact ⟨rfl, Below.refl _ _⟩
end Go.Proofs.YtmlidfpjeomcmaaDoor
