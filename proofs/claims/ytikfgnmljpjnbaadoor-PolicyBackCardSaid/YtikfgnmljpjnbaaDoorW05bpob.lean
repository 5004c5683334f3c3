/-
 Layer 5: fields behind bytes.
-/
import Derived.Test.YtikfgnmljpjnbaaDoorW05pob
namespace Go.Proofs.YtikfgnmljpjnbaaDoor
open Go.RowKit Go.Extern.Stop Go.Stop Go.Extern
set_option linter.unusedVariables false
set_option linter.unusedSimpArgs false
theorem number_z (A : Option Addr) (c : Nat) (l : List UInt8) (x z : Int) (v size : Nat) (w : World) (hrd : Rd w A l) (hcz : A = none → c = 0) (hl : l.length ≤ 140737488355000) (hx : x = (v : Int)) (hv : v < 18446744073709551616) (hsz : size ≤ 8) (hz : z = (size : Int)) :
   Calls Tryd.prog 84 #[.slice A l.length c, .int .u64 x, .int .i64 z] w (OwnP w (l ++ leB v size)) := by
 subst hz; exact number_c A c l x v size w hrd hcz hl hx hv hsz
theorem put2_c (A : Option Addr) (c : Nat) (l : List UInt8) (x : Int) (w : World) (hrd : Rd w A l) (hcz : A = none → c = 0) (hl : l.length ≤ 140737488355000) (hx0 : 0 ≤ x) (hx1 : x < 65536) :
   Calls Tryd.prog 37 #[.slice A l.length c, .int .u16 x] w (OwnP w (l ++ leB x.toNat 2)) := by
 go_enter Tryd.func37, Tryd.ntmps37
 go_wp2_with (go_at_call 84; (with_reducible refine (number_z _ _ _ _ _ x.toNat 2 _ hrd hcz hl (by omega) (by omega) (by decide) (by omega)).mono ?_); rintro e w1 ⟨v1, rfl, hown, hb⟩)
 go_ret
 exact ⟨v1, rfl, hown, hb⟩
def u64of (x : Int) : Nat := (x % 18446744073709551616).toNat
theorem u64of_lt (x : Int) : u64of x < 18446744073709551616 := by unfold u64of; omega
theorem u64of_wrap (x : Int) : IntKind.u64.wrap x = (u64of x : Int) := by
 rw [show IntKind.u64.wrap x = x % 18446744073709551616 by simp [IntKind.wrap, IntKind.bits, IntKind.signed]]
 unfold u64of; omega
theorem put8_c (A : Option Addr) (c : Nat) (l : List UInt8) (x : Int) (w : World) (hrd : Rd w A l) (hcz : A = none → c = 0) (hl : l.length ≤ 140737488355000) (hx : InR x) :
   Calls Tryd.prog 44 #[.slice A l.length c, .int .i64 x] w (OwnP w (l ++ leB (u64of x) 8)) := by
 go_enter Tryd.func44, Tryd.ntmps44
 go_wp2_with (go_at_call 84; (with_reducible refine (number_z _ _ _ _ _ (u64of x) 8 _ hrd hcz hl (by exact u64of_wrap x) (u64of_lt x) (by decide) (by omega)).mono ?_); rintro e w1 ⟨v1, rfl, hown, hb⟩)
 go_ret
 exact ⟨v1, rfl, hown, hb⟩
def TextP (w : World) (l : List UInt8) (e : Ending) (w' : World) : Prop := ∃ v, e = .returned (.tuple #[v, .nilIface]) ∧ w'.ownsRow w.heap.size 5 1 v l.length (bv l) ∧ Below w.heap.size w w'
def sB (s : ByteArray) : List UInt8 := s.data.toList
theorem sB_length (s : ByteArray) : (sB s).length = s.size := by simp [sB]
theorem sB_cells (s : ByteArray) : Lib.strCells s = bv (sB s) := rfl
def txt (s : ByteArray) : List UInt8 := leB s.size 1 ++ sB s
set_option maxRecDepth 100000 in
set_option maxHeartbeats 1000000 in
theorem text_ok (A : Option Addr) (c : Nat) (l : List UInt8) (s : ByteArray) (w : World) (hrd : Rd w A l) (hcz : A = none → c = 0) (hl : l.length ≤ 140737488350000) (hs : s.size ≤ 255) :
   Calls Tryd.prog 74 #[.slice A l.length c, .string s] w (TextP w (l ++ txt s)) := by
 obtain ⟨i0, hi, hz0, hz1, hz2⟩ := info_parts infoU8
 go_enter Tryd.func74, Tryd.ntmps74
 go_wp2_with (first | (go_at_call 84; (with_reducible refine (number_z _ _ _ _ _ s.size 1 _ hrd hcz (by omega) (by simp) (by omega) (by decide) (by omega)).mono ?_); rintro e w1 ⟨v1, rfl, hown, hb⟩) | (at_builtin; refine Lib.wpList_append_own_string _ rfl (.tmp 14) (.tmp 15) 22 9 rfl w.heap.size 5 i0 Tryd.underlying22 Tryd.underlying9 hi hz0 hz1 hz2 v1 _ _ rfl hown s rfl (by unfold maxLen; simp [leB_length]; omega) (by simp [leB_length]; omega) hb.size ?_; intro v2 w2 hown2 hg2 hat2))
 go_ret2
 refine ⟨v2, rfl, ?_, hb.grown hg2 hb.size (fun k hk => (hown.lt k hk).1)⟩
 rw [sB_cells, ← bv_append] at hown2
 simpa [txt, leB_length, sB_length, Nat.add_assoc, List.append_assoc] using hown2
end Go.Proofs.YtikfgnmljpjnbaaDoor
