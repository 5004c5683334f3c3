/-
 Layer 5: fields behind bytes.
-/
import Derived.Test.YtikfgnmljpjnbaaDoorW05bbk
namespace Go.Proofs.YtikfgnmljpjnbaaDoor
open Go.RowKit Go.Extern.Stop Go.Stop Go.Extern
set_option linter.unusedVariables false
set_option linter.unusedSimpArgs false
theorem number_z (A : Option Addr) (c : Nat) (l : List UInt8) (x z : Int) (v size : Nat) (w : World) (hrd : Rd w A l) (hcz : A = none → c = 0) (hl : l.length ≤ 140737488355000) (hx : x = (v : Int)) (hv : v < 18446744073709551616) (hsz : size ≤ 8) (hz : z = (size : Int)) :
   Calls Tryd.prog 84 #[.slice A l.length c, .int .u64 x, .int .i64 z] w (OwnP w (l ++ leB v size)) := by
 subst hz; exact number_c A c l x v size w hrd hcz hl hx hv hsz
theorem put2_c (A : Option Addr) (c : Nat) (l : List UInt8) (x : Int) (w : World) (hrd : Rd w A l) (hcz : A = none → c = 0) (hl : l.length ≤ 140737488355000) (hx0 : 0 ≤ x) (hx1 : x < 65536) :
   Calls Tryd.prog 37 #[.slice A l.length c, .int .u16 x] w (OwnP w (l ++ leB x.toNat 2)) := by
 go_enter Tryd.func37, Tryd.ntmps37
 go_wp2_with (go_at_call 84; (with_reducible refine (number_z _ _ _ _ _ x.toNat 2 _ hrd hcz hl (by omega) (by omega) (by decide) (by omega)).mono ?_); rintro e w1 ⟨v1, rfl, hown, hb⟩)
 go_ret
 exact ⟨v1, rfl, hown, hb⟩
def u64of (x : Int) : Nat := (x % 18446744073709551616).toNat
theorem u64of_wrap (x : Int) : IntKind.u64.wrap x = (u64of x : Int) := by
 rw [show IntKind.u64.wrap x = x % 18446744073709551616 by simp [IntKind.wrap, IntKind.bits, IntKind.signed]]
 unfold u64of; omega
end Go.Proofs.YtikfgnmljpjnbaaDoor
