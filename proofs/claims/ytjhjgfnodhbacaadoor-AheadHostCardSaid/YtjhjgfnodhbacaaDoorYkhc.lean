/-
  Layer 18 by the second engine: what must come, the laws.
-/
import Derived.Test.YtjhjgfnodhbacaaDoorSychc
import Derived.Test.YtjhjgfnodhbacaaDoorYjhc
import Derived.Test.YtjhjgfnodhbacaaDoorE00hc
import Derived.Test.YtjhjgfnodhbacaaDoorNumhc
namespace Go.Proofs.YtjhjgfnodhbacaaDoor
open Go.RowKit Go.Extern.Stop Go.Stop Go.Extern Go.Proofs.YtjhjgfnodhbacaaDoor.Sy
set_option linter.unusedVariables false
set_option linter.unusedSimpArgs false
theorem h_1 : nwEl (Sy.rows (.tuple #[.int .u32 2147483648, .int .i64 31, .int .i64 100, .int .i64 4, .int .i64 1, .int .i64 1000, .int .i64 1099511627776, .bool false, .int .i64 0, .int .i64 0, .int .i64 0, .int .i64 0, .int .i64 0])) 0 = 13 := by decide
theorem h_7 : nwEl (Sy.rows (.tuple #[.int .u32 2147483648, .int .i64 31, .int .i64 100, .int .i64 4, .int .i64 1, .int .i64 1000, .int .i64 1099511627776, .bool true, .int .i64 0, .int .i64 100, .int .i64 5, .int .i64 0, .int .i64 0])) 10 = 0 := by decide
theorem h_8 : nwTl (Sy.rows (.tuple #[.int .u32 2147483648, .int .i64 31, .int .i64 100, .int .i64 4, .int .i64 1, .int .i64 1000, .int .i64 1099511627776, .bool true, .int .i64 0, .int .i64 100, .int .i64 5, .int .i64 0, .int .i64 0])) 10 = 110 := by decide
theorem h_9 : nwOl (Sy.rows (.tuple #[.int .u32 2147483648, .int .i64 31, .int .i64 100, .int .i64 4, .int .i64 1, .int .i64 1000, .int .i64 1099511627776, .bool true, .int .i64 0, .int .i64 100, .int .i64 5, .int .i64 0, .int .i64 0])) 10 = 10 := by decide
theorem h_10 : nwEl (Sy.rows (.tuple #[.int .u32 2147483648, .int .i64 31, .int .i64 100, .int .i64 4, .int .i64 1, .int .i64 1000, .int .i64 1099511627776, .bool true, .int .i64 0, .int .i64 100, .int .i64 5, .int .i64 0, .int .i64 0])) (-1) = 10 := by decide
noncomputable def ykI : Nat → List Value → Int
  | i, l => yjI i l
noncomputable def ykB : Nat → List Value → Bool
  | i, l => yjB i l
noncomputable def ykV : Nat → List Value → Value
  | i, l => yjV i l
noncomputable abbrev ykE (iv : List Int) (bv : List Bool) (vv : List Value) (sv : List ByteArray) : Env := { iv := iv, bv := bv, vv := vv, sv := sv, fi := ykI, fb := ykB, fv := ykV, et := 229 }
set_option maxHeartbeats 8000000 in
theorem ykup : Agree 57 5 2 (yjE [] [] [] []) (ykE [] [] [] []) := ⟨rfl, (by
    intro f hf
    funext l
    show ykI f l = yjI f l
    unfold ykI
    split <;> first | rfl | omega), (by
    intro f hf
    funext l
    show ykB f l = yjB f l
    unfold ykB
    split <;> first | rfl | omega), (by
    intro f hf
    funext l
    show ykV f l = yjV f l
    unfold ykV
    split <;> first | rfl | omega)⟩
end Go.Proofs.YtjhjgfnodhbacaaDoor
