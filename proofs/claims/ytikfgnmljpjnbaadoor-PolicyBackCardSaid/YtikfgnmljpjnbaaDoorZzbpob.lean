/-
 Layer 10 behind the blobs: At and Next.
-/
import Derived.Test.YtikfgnmljpjnbaaDoorSycpob
import Derived.Test.YtikfgnmljpjnbaaDoorZtpob
import Derived.Test.YtikfgnmljpjnbaaDoorZzspob
namespace Go.Proofs.YtikfgnmljpjnbaaDoor
open Go.RowKit Go.Extern.Stop Go.Stop Go.Extern Go.Proofs.YtikfgnmljpjnbaaDoor.Sy
set_option linter.unusedVariables false
set_option linter.unusedSimpArgs false
def atO (s : ByteArray) (f : Int) (l : List Value) (d : Int) : Int := if zoneB s f l then (if srchN l d = 0 then f else Go.RowKit.intOf (l.getD ((srchN l d - 1) * 3 + 1) Go.undef)) else 0
def atN (s : ByteArray) (f : Int) (l : List Value) (d : Int) : ByteArray := if zoneB s f l then (if srchN l d = 0 then s else strOf (l.getD ((srchN l d - 1) * 3 + 2) Go.undef)) else ⟨#[]⟩
def nxtI (s : ByteArray) (f : Int) (l : List Value) (d : Int) : Int := if zoneB s f l then (if srchN l d = l.length / 3 then 0 else Go.RowKit.intOf (l.getD (srchN l d * 3) Go.undef)) else 0
def nxtE (s : ByteArray) (f : Int) (l : List Value) (d : Int) : Int := if zoneB s f l then (if srchN l d = l.length / 3 then 6 else 0) else 1
noncomputable def zzbI : Nat → List Value → Int
 | 13, [l, .int _ d] => ((srchN (rows l) d : Nat) : Int)
 | 14, [.string s, .int _ f, l, .int _ d] => atO s f (rows l) d
 | 15, [.string s, .int _ f, l, .int _ d] => nxtI s f (rows l) d
 | 16, [.string s, .int _ f, l, .int _ d] => nxtE s f (rows l) d
 | i, l => ztI i l
noncomputable def zzbB : Nat → List Value → Bool
 | i, l => ztB i l
noncomputable def zzbV : Nat → List Value → Value
 | 12, [.string s, .int _ f, l, .int _ d] => .string (atN s f (rows l) d)
 | i, l => ztV i l
noncomputable abbrev zzbE (iv : List Int) (bv : List Bool) (vv : List Value) (sv : List ByteArray) : Env := { iv := iv, bv := bv, vv := vv, sv := sv, fi := zzbI, fb := zzbB, fv := zzbV, et := 101 }
set_option maxHeartbeats 8000000 in
theorem zzbup : Agree 13 10 12 (ztE [] [] [] []) (zzbE [] [] [] []) := ⟨rfl, (by
   intro f hf
   funext l
   show zzbI f l = ztI f l
   unfold zzbI
   split <;> first | rfl | omega), (by
   intro f hf
   funext l
   show zzbB f l = ztB f l
   unfold zzbB
   split <;> first | rfl | omega), (by
   intro f hf
   funext l
   show zzbV f l = ztV f l
   unfold zzbV
   split <;> first | rfl | omega)⟩
end Go.Proofs.YtikfgnmljpjnbaaDoor
