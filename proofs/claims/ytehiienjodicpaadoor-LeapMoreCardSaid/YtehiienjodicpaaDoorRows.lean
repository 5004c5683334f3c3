/-
  NARROWER THAN 'FOR EVERY INPUT', by the rows' own cells (each row's printed sentence says how): LeapDays: laid · LeapMoments: laid · LeapForms: laid · LeapBack: laid · LeapMore: laid · ZoneTells: laid · ZoneForms: laid · ZoneSpans: laid · SmearSteps: laid · SmearTells: laid · SmearOnward: laid · SmearOutside: laid.
  DERIVED. THE GIVEN ROWS OF THIS SEAT. 12 by the template 'for every input the law returns true; each argument reads behind the call as it read before'; 0 by the template 'total and deterministic' (their statements: YtehiienjodicpaaDoorTotals.lean).
  GIVEN WITH THE SEED: the statements are not yours to turn. If you find one false, say at which input.
  Laid BY PROGRAM, IN A SANDBOX (cutbox-rows.mjs): the forced cells as the released guide's own fill.sh prints them over the translation 59cdfe20dccad832… (all of the seat's roots in one cut). By AI agents, Wed Nov 11 2026. No macro, syntax, notation, axiom, sorry.
-/
import Derived.Test.YtehiienjodicpaaDoorChecked
import GoSem.Claim
import GoSem.ClaimJoined
import GoSem.ClaimMapViews
import Derived.JoinedTies
import Derived.KernelRfl
namespace Go.Proofs.YtehiienjodicpaaDoor
/- THE CELL 'sum', in the pinned program and in every row, IS THE sha256 OF THE DUMP (.gsa) THAT YtehiienjodicpaaDoorProg.lean LOADS. Nothing in Lean hashes anything: it is a label: what it is worth is what the hold of that sum in a sandbox is worth. -/
noncomputable def Tryd.pinned : Pinned := { name := "ytehiienjodicpaadoor", sum := "59cdfe20dccad83240987b1427591936572d8009e98457d6239e62b8ba3c6cb7", checked := Tryd.checked }
namespace Rows
def none {H : Type} : Left H := { results := [], args := [] }

/- WHAT THE LISTED PACKAGE-LEVEL VARIABLES READ AS WHEN THE CALL BEGINS. Each datum BY PROGRAM (the guide's laid-datum.mjs) off the statement by which the dump's own 'gosem.cut.vars' lays the variable. In a bare row this is a premise. The card (YtehiienjodicpaaDoorCards.lean) ties it to the program's text. -/
def laid_errors_errorType {H : Type} : DataW H := .iface "internal/reflectlite.rtype" (.agg [.ptr (.lit (.string [101, 114, 114, 111, 114]))])

/-- 'fuseelaw09.LeapDays': WHATEVER THE INPUT: true; the input reads as it did. -/
def leapDaysSpec : ChangeSpec := { name := "leapDays", fn := fun _ => fun
  | [d1, d2] => { results := [.lit (.bool true)], args := [d1, d2] }
  | _ => none }
def leapDaysRow : OpenClaim := { program := "ytehiienjodicpaadoor", sum := "59cdfe20dccad83240987b1427591936572d8009e98457d6239e62b8ba3c6cb7", func := "fusee/fuseelaw09.LeapDays", spec := "leapDays", inPlace := ["internal/reflectlite.ValueOf", "(internal/reflectlite.Value).Type", "(internal/reflectlite.Value).IsNil", "internal/reflectlite.TypeOf", "(internal/reflectlite.Value).Elem", "(internal/reflectlite.Value).Set"], unfollowed := true, recurses := true, named := ["errors.errorType"], apart := false, laid := [("errors.errorType", laid_errors_errorType)] }
def LeapDaysSaid : Prop := leapDaysRow.holds Tryd.pinned (OpenSpec.ofChange leapDaysSpec)

/-- ITS FALSE NEIGHBOUR: 'it returns false'. Refute it at one input. -/
def leapDaysWrong : ChangeSpec := { name := "leapDays", fn := fun _ => fun
  | [d1, d2] => { results := [.lit (.bool false)], args := [d1, d2] }
  | _ => none }
def LeapDaysWrongFalsely : Prop := leapDaysRow.holds Tryd.pinned (OpenSpec.ofChange leapDaysWrong)

/-- 'fuseelaw09.LeapMoments': WHATEVER THE INPUT: true; the input reads as it did. -/
def leapMomentsSpec : ChangeSpec := { name := "leapMoments", fn := fun _ => fun
  | [d1, d2, d3] => { results := [.lit (.bool true)], args := [d1, d2, d3] }
  | _ => none }
def leapMomentsRow : OpenClaim := { program := "ytehiienjodicpaadoor", sum := "59cdfe20dccad83240987b1427591936572d8009e98457d6239e62b8ba3c6cb7", func := "fusee/fuseelaw09.LeapMoments", spec := "leapMoments", inPlace := ["internal/reflectlite.ValueOf", "(internal/reflectlite.Value).Type", "(internal/reflectlite.Value).IsNil", "internal/reflectlite.TypeOf", "(internal/reflectlite.Value).Elem", "(internal/reflectlite.Value).Set"], unfollowed := true, recurses := true, named := ["errors.errorType"], apart := false, laid := [("errors.errorType", laid_errors_errorType)] }
def LeapMomentsSaid : Prop := leapMomentsRow.holds Tryd.pinned (OpenSpec.ofChange leapMomentsSpec)

/-- ITS FALSE NEIGHBOUR: 'it returns false'. Refute it at one input. -/
def leapMomentsWrong : ChangeSpec := { name := "leapMoments", fn := fun _ => fun
  | [d1, d2, d3] => { results := [.lit (.bool false)], args := [d1, d2, d3] }
  | _ => none }
def LeapMomentsWrongFalsely : Prop := leapMomentsRow.holds Tryd.pinned (OpenSpec.ofChange leapMomentsWrong)

/-- 'fuseelaw09.LeapForms': WHATEVER THE INPUT: true; the input reads as it did. -/
def leapFormsSpec : ChangeSpec := { name := "leapForms", fn := fun _ => fun
  | [d1, d2] => { results := [.lit (.bool true)], args := [d1, d2] }
  | _ => none }
def leapFormsRow : OpenClaim := { program := "ytehiienjodicpaadoor", sum := "59cdfe20dccad83240987b1427591936572d8009e98457d6239e62b8ba3c6cb7", func := "fusee/fuseelaw09.LeapForms", spec := "leapForms", inPlace := ["internal/reflectlite.ValueOf", "(internal/reflectlite.Value).Type", "(internal/reflectlite.Value).IsNil", "internal/reflectlite.TypeOf", "(internal/reflectlite.Value).Elem", "(internal/reflectlite.Value).Set"], unfollowed := true, recurses := true, named := ["errors.errorType"], apart := false, laid := [("errors.errorType", laid_errors_errorType)] }
def LeapFormsSaid : Prop := leapFormsRow.holds Tryd.pinned (OpenSpec.ofChange leapFormsSpec)

/-- ITS FALSE NEIGHBOUR: 'it returns false'. Refute it at one input. -/
def leapFormsWrong : ChangeSpec := { name := "leapForms", fn := fun _ => fun
  | [d1, d2] => { results := [.lit (.bool false)], args := [d1, d2] }
  | _ => none }
def LeapFormsWrongFalsely : Prop := leapFormsRow.holds Tryd.pinned (OpenSpec.ofChange leapFormsWrong)

/-- 'fuseelaw09.LeapBack': WHATEVER THE INPUT: true; the input reads as it did. -/
def leapBackSpec : ChangeSpec := { name := "leapBack", fn := fun _ => fun
  | [d1, d2, d3] => { results := [.lit (.bool true)], args := [d1, d2, d3] }
  | _ => none }
def leapBackRow : OpenClaim := { program := "ytehiienjodicpaadoor", sum := "59cdfe20dccad83240987b1427591936572d8009e98457d6239e62b8ba3c6cb7", func := "fusee/fuseelaw09.LeapBack", spec := "leapBack", inPlace := ["internal/reflectlite.ValueOf", "(internal/reflectlite.Value).Type", "(internal/reflectlite.Value).IsNil", "internal/reflectlite.TypeOf", "(internal/reflectlite.Value).Elem", "(internal/reflectlite.Value).Set"], unfollowed := true, recurses := true, named := ["errors.errorType"], apart := false, laid := [("errors.errorType", laid_errors_errorType)] }
def LeapBackSaid : Prop := leapBackRow.holds Tryd.pinned (OpenSpec.ofChange leapBackSpec)

/-- ITS FALSE NEIGHBOUR: 'it returns false'. Refute it at one input. -/
def leapBackWrong : ChangeSpec := { name := "leapBack", fn := fun _ => fun
  | [d1, d2, d3] => { results := [.lit (.bool false)], args := [d1, d2, d3] }
  | _ => none }
def LeapBackWrongFalsely : Prop := leapBackRow.holds Tryd.pinned (OpenSpec.ofChange leapBackWrong)

/-- 'fuseelaw09.LeapMore': WHATEVER THE INPUT: true; the input reads as it did. -/
def leapMoreSpec : ChangeSpec := { name := "leapMore", fn := fun _ => fun
  | [d1, d2, d3] => { results := [.lit (.bool true)], args := [d1, d2, d3] }
  | _ => none }
def leapMoreRow : OpenClaim := { program := "ytehiienjodicpaadoor", sum := "59cdfe20dccad83240987b1427591936572d8009e98457d6239e62b8ba3c6cb7", func := "fusee/fuseelaw09.LeapMore", spec := "leapMore", inPlace := ["internal/reflectlite.ValueOf", "(internal/reflectlite.Value).Type", "(internal/reflectlite.Value).IsNil", "internal/reflectlite.TypeOf", "(internal/reflectlite.Value).Elem", "(internal/reflectlite.Value).Set"], unfollowed := true, recurses := true, named := ["errors.errorType"], apart := false, laid := [("errors.errorType", laid_errors_errorType)] }
def LeapMoreSaid : Prop := leapMoreRow.holds Tryd.pinned (OpenSpec.ofChange leapMoreSpec)

/-- ITS FALSE NEIGHBOUR: 'it returns false'. Refute it at one input. -/
def leapMoreWrong : ChangeSpec := { name := "leapMore", fn := fun _ => fun
  | [d1, d2, d3] => { results := [.lit (.bool false)], args := [d1, d2, d3] }
  | _ => none }
def LeapMoreWrongFalsely : Prop := leapMoreRow.holds Tryd.pinned (OpenSpec.ofChange leapMoreWrong)

/-- 'fuseelaw10.ZoneTells': WHATEVER THE INPUT: true; the input reads as it did. -/
def zoneTellsSpec : ChangeSpec := { name := "zoneTells", fn := fun _ => fun
  | [d1, d2] => { results := [.lit (.bool true)], args := [d1, d2] }
  | _ => none }
def zoneTellsRow : OpenClaim := { program := "ytehiienjodicpaadoor", sum := "59cdfe20dccad83240987b1427591936572d8009e98457d6239e62b8ba3c6cb7", func := "fusee/fuseelaw10.ZoneTells", spec := "zoneTells", inPlace := ["internal/reflectlite.ValueOf", "(internal/reflectlite.Value).Type", "(internal/reflectlite.Value).IsNil", "internal/reflectlite.TypeOf", "(internal/reflectlite.Value).Elem", "(internal/reflectlite.Value).Set"], unfollowed := true, recurses := true, named := ["errors.errorType"], apart := false, laid := [("errors.errorType", laid_errors_errorType)] }
def ZoneTellsSaid : Prop := zoneTellsRow.holds Tryd.pinned (OpenSpec.ofChange zoneTellsSpec)

/-- ITS FALSE NEIGHBOUR: 'it returns false'. Refute it at one input. -/
def zoneTellsWrong : ChangeSpec := { name := "zoneTells", fn := fun _ => fun
  | [d1, d2] => { results := [.lit (.bool false)], args := [d1, d2] }
  | _ => none }
def ZoneTellsWrongFalsely : Prop := zoneTellsRow.holds Tryd.pinned (OpenSpec.ofChange zoneTellsWrong)

/-- 'fuseelaw10.ZoneForms': WHATEVER THE INPUT: true; the input reads as it did. -/
def zoneFormsSpec : ChangeSpec := { name := "zoneForms", fn := fun _ => fun
  | [d1, d2] => { results := [.lit (.bool true)], args := [d1, d2] }
  | _ => none }
def zoneFormsRow : OpenClaim := { program := "ytehiienjodicpaadoor", sum := "59cdfe20dccad83240987b1427591936572d8009e98457d6239e62b8ba3c6cb7", func := "fusee/fuseelaw10.ZoneForms", spec := "zoneForms", inPlace := ["internal/reflectlite.ValueOf", "(internal/reflectlite.Value).Type", "(internal/reflectlite.Value).IsNil", "internal/reflectlite.TypeOf", "(internal/reflectlite.Value).Elem", "(internal/reflectlite.Value).Set"], unfollowed := true, recurses := true, named := ["errors.errorType"], apart := false, laid := [("errors.errorType", laid_errors_errorType)] }
def ZoneFormsSaid : Prop := zoneFormsRow.holds Tryd.pinned (OpenSpec.ofChange zoneFormsSpec)

/-- ITS FALSE NEIGHBOUR: 'it returns false'. Refute it at one input. -/
def zoneFormsWrong : ChangeSpec := { name := "zoneForms", fn := fun _ => fun
  | [d1, d2] => { results := [.lit (.bool false)], args := [d1, d2] }
  | _ => none }
def ZoneFormsWrongFalsely : Prop := zoneFormsRow.holds Tryd.pinned (OpenSpec.ofChange zoneFormsWrong)

/-- 'fuseelaw10.ZoneSpans': WHATEVER THE INPUT: true; the input reads as it did. -/
def zoneSpansSpec : ChangeSpec := { name := "zoneSpans", fn := fun _ => fun
  | [d1, d2, d3] => { results := [.lit (.bool true)], args := [d1, d2, d3] }
  | _ => none }
def zoneSpansRow : OpenClaim := { program := "ytehiienjodicpaadoor", sum := "59cdfe20dccad83240987b1427591936572d8009e98457d6239e62b8ba3c6cb7", func := "fusee/fuseelaw10.ZoneSpans", spec := "zoneSpans", inPlace := ["internal/reflectlite.ValueOf", "(internal/reflectlite.Value).Type", "(internal/reflectlite.Value).IsNil", "internal/reflectlite.TypeOf", "(internal/reflectlite.Value).Elem", "(internal/reflectlite.Value).Set"], unfollowed := true, recurses := true, named := ["errors.errorType"], apart := false, laid := [("errors.errorType", laid_errors_errorType)] }
def ZoneSpansSaid : Prop := zoneSpansRow.holds Tryd.pinned (OpenSpec.ofChange zoneSpansSpec)

/-- ITS FALSE NEIGHBOUR: 'it returns false'. Refute it at one input. -/
def zoneSpansWrong : ChangeSpec := { name := "zoneSpans", fn := fun _ => fun
  | [d1, d2, d3] => { results := [.lit (.bool false)], args := [d1, d2, d3] }
  | _ => none }
def ZoneSpansWrongFalsely : Prop := zoneSpansRow.holds Tryd.pinned (OpenSpec.ofChange zoneSpansWrong)

/-- 'fuseelaw12.SmearSteps': WHATEVER THE INPUT: true; the input reads as it did. -/
def smearStepsSpec : ChangeSpec := { name := "smearSteps", fn := fun _ => fun
  | [d1, d2, d3] => { results := [.lit (.bool true)], args := [d1, d2, d3] }
  | _ => none }
def smearStepsRow : OpenClaim := { program := "ytehiienjodicpaadoor", sum := "59cdfe20dccad83240987b1427591936572d8009e98457d6239e62b8ba3c6cb7", func := "fusee/fuseelaw12.SmearSteps", spec := "smearSteps", inPlace := ["internal/reflectlite.ValueOf", "(internal/reflectlite.Value).Type", "(internal/reflectlite.Value).IsNil", "internal/reflectlite.TypeOf", "(internal/reflectlite.Value).Elem", "(internal/reflectlite.Value).Set"], unfollowed := true, recurses := true, named := ["math/bits.divideError", "math/bits.overflowError", "errors.errorType"], apart := false, laid := [("errors.errorType", laid_errors_errorType)] }
def SmearStepsSaid : Prop := smearStepsRow.holds Tryd.pinned (OpenSpec.ofChange smearStepsSpec)

/-- ITS FALSE NEIGHBOUR: 'it returns false'. Refute it at one input. -/
def smearStepsWrong : ChangeSpec := { name := "smearSteps", fn := fun _ => fun
  | [d1, d2, d3] => { results := [.lit (.bool false)], args := [d1, d2, d3] }
  | _ => none }
def SmearStepsWrongFalsely : Prop := smearStepsRow.holds Tryd.pinned (OpenSpec.ofChange smearStepsWrong)

/-- 'fuseelaw12.SmearTells': WHATEVER THE INPUT: true; the input reads as it did. -/
def smearTellsSpec : ChangeSpec := { name := "smearTells", fn := fun _ => fun
  | [d1, d2, d3] => { results := [.lit (.bool true)], args := [d1, d2, d3] }
  | _ => none }
def smearTellsRow : OpenClaim := { program := "ytehiienjodicpaadoor", sum := "59cdfe20dccad83240987b1427591936572d8009e98457d6239e62b8ba3c6cb7", func := "fusee/fuseelaw12.SmearTells", spec := "smearTells", inPlace := ["internal/reflectlite.ValueOf", "(internal/reflectlite.Value).Type", "(internal/reflectlite.Value).IsNil", "internal/reflectlite.TypeOf", "(internal/reflectlite.Value).Elem", "(internal/reflectlite.Value).Set"], unfollowed := true, recurses := true, named := ["math/bits.divideError", "math/bits.overflowError", "errors.errorType"], apart := false, laid := [("errors.errorType", laid_errors_errorType)] }
def SmearTellsSaid : Prop := smearTellsRow.holds Tryd.pinned (OpenSpec.ofChange smearTellsSpec)

/-- ITS FALSE NEIGHBOUR: 'it returns false'. Refute it at one input. -/
def smearTellsWrong : ChangeSpec := { name := "smearTells", fn := fun _ => fun
  | [d1, d2, d3] => { results := [.lit (.bool false)], args := [d1, d2, d3] }
  | _ => none }
def SmearTellsWrongFalsely : Prop := smearTellsRow.holds Tryd.pinned (OpenSpec.ofChange smearTellsWrong)

/-- 'fuseelaw12.SmearOnward': WHATEVER THE INPUT: true; the input reads as it did. -/
def smearOnwardSpec : ChangeSpec := { name := "smearOnward", fn := fun _ => fun
  | [d1, d2, d3] => { results := [.lit (.bool true)], args := [d1, d2, d3] }
  | _ => none }
def smearOnwardRow : OpenClaim := { program := "ytehiienjodicpaadoor", sum := "59cdfe20dccad83240987b1427591936572d8009e98457d6239e62b8ba3c6cb7", func := "fusee/fuseelaw12.SmearOnward", spec := "smearOnward", inPlace := ["internal/reflectlite.ValueOf", "(internal/reflectlite.Value).Type", "(internal/reflectlite.Value).IsNil", "internal/reflectlite.TypeOf", "(internal/reflectlite.Value).Elem", "(internal/reflectlite.Value).Set"], unfollowed := true, recurses := true, named := ["math/bits.divideError", "math/bits.overflowError", "errors.errorType"], apart := false, laid := [("errors.errorType", laid_errors_errorType)] }
def SmearOnwardSaid : Prop := smearOnwardRow.holds Tryd.pinned (OpenSpec.ofChange smearOnwardSpec)

/-- ITS FALSE NEIGHBOUR: 'it returns false'. Refute it at one input. -/
def smearOnwardWrong : ChangeSpec := { name := "smearOnward", fn := fun _ => fun
  | [d1, d2, d3] => { results := [.lit (.bool false)], args := [d1, d2, d3] }
  | _ => none }
def SmearOnwardWrongFalsely : Prop := smearOnwardRow.holds Tryd.pinned (OpenSpec.ofChange smearOnwardWrong)

/-- 'fuseelaw12.SmearOutside': WHATEVER THE INPUT: true; the input reads as it did. -/
def smearOutsideSpec : ChangeSpec := { name := "smearOutside", fn := fun _ => fun
  | [d1, d2, d3] => { results := [.lit (.bool true)], args := [d1, d2, d3] }
  | _ => none }
def smearOutsideRow : OpenClaim := { program := "ytehiienjodicpaadoor", sum := "59cdfe20dccad83240987b1427591936572d8009e98457d6239e62b8ba3c6cb7", func := "fusee/fuseelaw12.SmearOutside", spec := "smearOutside", inPlace := ["internal/reflectlite.ValueOf", "(internal/reflectlite.Value).Type", "(internal/reflectlite.Value).IsNil", "internal/reflectlite.TypeOf", "(internal/reflectlite.Value).Elem", "(internal/reflectlite.Value).Set"], unfollowed := true, recurses := true, named := ["math/bits.divideError", "math/bits.overflowError", "errors.errorType"], apart := false, laid := [("errors.errorType", laid_errors_errorType)] }
def SmearOutsideSaid : Prop := smearOutsideRow.holds Tryd.pinned (OpenSpec.ofChange smearOutsideSpec)

/-- ITS FALSE NEIGHBOUR: 'it returns false'. Refute it at one input. -/
def smearOutsideWrong : ChangeSpec := { name := "smearOutside", fn := fun _ => fun
  | [d1, d2, d3] => { results := [.lit (.bool false)], args := [d1, d2, d3] }
  | _ => none }
def SmearOutsideWrongFalsely : Prop := smearOutsideRow.holds Tryd.pinned (OpenSpec.ofChange smearOutsideWrong)

/- THE SECOND FORM. 'bulk': how many values and letters a reading holds, each counted each time it is reached (what is shared counts as often as it is met; a slice's spare places count too). A statement '..UptoSaid' is the law's where the arguments, and the package variables that the reading takes, are together of bulk at most 1048576: NARROWER than '..Said'. Prove '..Said' where nothing that the law and all that it calls make is longer than what came in: it says more and counts as full. Else prove '..UptoSaid'. A law counts once. -/
mutual
def uptoBulk {H : Type} : DataW H → Nat
  | .lit (.string bytes) => bytes.length + 1
  | .lit _ => 1
  | .nil => 1
  | .ptr d => uptoBulk d + 1
  | .slice elems spare => uptoBulkAll elems + uptoBulkAll spare + 1
  | .agg parts => uptoBulkAll parts + 1
  | .iface _ d => uptoBulk d + 1
  | .map entries => uptoBulkEntries entries + 1
  | .held _ => 1
def uptoBulkAll {H : Type} : List (DataW H) → Nat
  | [] => 0
  | d :: r => uptoBulk d + uptoBulkAll r
def uptoBulkEntries {H : Type} : List (Lit × DataW H) → Nat
  | [] => 0
  | x :: r => uptoBulkEntry x + uptoBulkEntries r
def uptoBulkEntry {H : Type} : Lit × DataW H → Nat
  | (.string bytes, d) => bytes.length + uptoBulk d + 1
  | (_, d) => uptoBulk d + 1
 end
def uptoSmall : (H : Type) → List (DataW H) → Bool := fun _ ds => decide (uptoBulkAll ds ≤ 1048576)
def OpenSpec.upto (s : _root_.Go.ChangeSpec) : _root_.Go.OpenSpec := { _root_.Go.OpenSpec.ofChange s with cond := some uptoSmall }

/-- 'fuseelaw09.LeapDays', WHERE WHAT IT READS IS OF BULK AT MOST 1048576: true; the input reads as it did. -/
def leapDaysUptoRow : OpenClaim := { program := "ytehiienjodicpaadoor", sum := "59cdfe20dccad83240987b1427591936572d8009e98457d6239e62b8ba3c6cb7", func := "fusee/fuseelaw09.LeapDays", spec := "leapDays", inPlace := ["internal/reflectlite.ValueOf", "(internal/reflectlite.Value).Type", "(internal/reflectlite.Value).IsNil", "internal/reflectlite.TypeOf", "(internal/reflectlite.Value).Elem", "(internal/reflectlite.Value).Set"], unfollowed := true, recurses := true, named := ["errors.errorType"], apart := false, laid := [("errors.errorType", laid_errors_errorType)], narrowed := true }
def LeapDaysUptoSaid : Prop := leapDaysUptoRow.holds Tryd.pinned (OpenSpec.upto leapDaysSpec)

/-- 'fuseelaw09.LeapMoments', WHERE WHAT IT READS IS OF BULK AT MOST 1048576: true; the input reads as it did. -/
def leapMomentsUptoRow : OpenClaim := { program := "ytehiienjodicpaadoor", sum := "59cdfe20dccad83240987b1427591936572d8009e98457d6239e62b8ba3c6cb7", func := "fusee/fuseelaw09.LeapMoments", spec := "leapMoments", inPlace := ["internal/reflectlite.ValueOf", "(internal/reflectlite.Value).Type", "(internal/reflectlite.Value).IsNil", "internal/reflectlite.TypeOf", "(internal/reflectlite.Value).Elem", "(internal/reflectlite.Value).Set"], unfollowed := true, recurses := true, named := ["errors.errorType"], apart := false, laid := [("errors.errorType", laid_errors_errorType)], narrowed := true }
def LeapMomentsUptoSaid : Prop := leapMomentsUptoRow.holds Tryd.pinned (OpenSpec.upto leapMomentsSpec)

/-- 'fuseelaw09.LeapForms', WHERE WHAT IT READS IS OF BULK AT MOST 1048576: true; the input reads as it did. -/
def leapFormsUptoRow : OpenClaim := { program := "ytehiienjodicpaadoor", sum := "59cdfe20dccad83240987b1427591936572d8009e98457d6239e62b8ba3c6cb7", func := "fusee/fuseelaw09.LeapForms", spec := "leapForms", inPlace := ["internal/reflectlite.ValueOf", "(internal/reflectlite.Value).Type", "(internal/reflectlite.Value).IsNil", "internal/reflectlite.TypeOf", "(internal/reflectlite.Value).Elem", "(internal/reflectlite.Value).Set"], unfollowed := true, recurses := true, named := ["errors.errorType"], apart := false, laid := [("errors.errorType", laid_errors_errorType)], narrowed := true }
def LeapFormsUptoSaid : Prop := leapFormsUptoRow.holds Tryd.pinned (OpenSpec.upto leapFormsSpec)

/-- 'fuseelaw09.LeapBack', WHERE WHAT IT READS IS OF BULK AT MOST 1048576: true; the input reads as it did. -/
def leapBackUptoRow : OpenClaim := { program := "ytehiienjodicpaadoor", sum := "59cdfe20dccad83240987b1427591936572d8009e98457d6239e62b8ba3c6cb7", func := "fusee/fuseelaw09.LeapBack", spec := "leapBack", inPlace := ["internal/reflectlite.ValueOf", "(internal/reflectlite.Value).Type", "(internal/reflectlite.Value).IsNil", "internal/reflectlite.TypeOf", "(internal/reflectlite.Value).Elem", "(internal/reflectlite.Value).Set"], unfollowed := true, recurses := true, named := ["errors.errorType"], apart := false, laid := [("errors.errorType", laid_errors_errorType)], narrowed := true }
def LeapBackUptoSaid : Prop := leapBackUptoRow.holds Tryd.pinned (OpenSpec.upto leapBackSpec)

/-- 'fuseelaw09.LeapMore', WHERE WHAT IT READS IS OF BULK AT MOST 1048576: true; the input reads as it did. -/
def leapMoreUptoRow : OpenClaim := { program := "ytehiienjodicpaadoor", sum := "59cdfe20dccad83240987b1427591936572d8009e98457d6239e62b8ba3c6cb7", func := "fusee/fuseelaw09.LeapMore", spec := "leapMore", inPlace := ["internal/reflectlite.ValueOf", "(internal/reflectlite.Value).Type", "(internal/reflectlite.Value).IsNil", "internal/reflectlite.TypeOf", "(internal/reflectlite.Value).Elem", "(internal/reflectlite.Value).Set"], unfollowed := true, recurses := true, named := ["errors.errorType"], apart := false, laid := [("errors.errorType", laid_errors_errorType)], narrowed := true }
def LeapMoreUptoSaid : Prop := leapMoreUptoRow.holds Tryd.pinned (OpenSpec.upto leapMoreSpec)

/-- 'fuseelaw10.ZoneTells', WHERE WHAT IT READS IS OF BULK AT MOST 1048576: true; the input reads as it did. -/
def zoneTellsUptoRow : OpenClaim := { program := "ytehiienjodicpaadoor", sum := "59cdfe20dccad83240987b1427591936572d8009e98457d6239e62b8ba3c6cb7", func := "fusee/fuseelaw10.ZoneTells", spec := "zoneTells", inPlace := ["internal/reflectlite.ValueOf", "(internal/reflectlite.Value).Type", "(internal/reflectlite.Value).IsNil", "internal/reflectlite.TypeOf", "(internal/reflectlite.Value).Elem", "(internal/reflectlite.Value).Set"], unfollowed := true, recurses := true, named := ["errors.errorType"], apart := false, laid := [("errors.errorType", laid_errors_errorType)], narrowed := true }
def ZoneTellsUptoSaid : Prop := zoneTellsUptoRow.holds Tryd.pinned (OpenSpec.upto zoneTellsSpec)

/-- 'fuseelaw10.ZoneForms', WHERE WHAT IT READS IS OF BULK AT MOST 1048576: true; the input reads as it did. -/
def zoneFormsUptoRow : OpenClaim := { program := "ytehiienjodicpaadoor", sum := "59cdfe20dccad83240987b1427591936572d8009e98457d6239e62b8ba3c6cb7", func := "fusee/fuseelaw10.ZoneForms", spec := "zoneForms", inPlace := ["internal/reflectlite.ValueOf", "(internal/reflectlite.Value).Type", "(internal/reflectlite.Value).IsNil", "internal/reflectlite.TypeOf", "(internal/reflectlite.Value).Elem", "(internal/reflectlite.Value).Set"], unfollowed := true, recurses := true, named := ["errors.errorType"], apart := false, laid := [("errors.errorType", laid_errors_errorType)], narrowed := true }
def ZoneFormsUptoSaid : Prop := zoneFormsUptoRow.holds Tryd.pinned (OpenSpec.upto zoneFormsSpec)

/-- 'fuseelaw10.ZoneSpans', WHERE WHAT IT READS IS OF BULK AT MOST 1048576: true; the input reads as it did. -/
def zoneSpansUptoRow : OpenClaim := { program := "ytehiienjodicpaadoor", sum := "59cdfe20dccad83240987b1427591936572d8009e98457d6239e62b8ba3c6cb7", func := "fusee/fuseelaw10.ZoneSpans", spec := "zoneSpans", inPlace := ["internal/reflectlite.ValueOf", "(internal/reflectlite.Value).Type", "(internal/reflectlite.Value).IsNil", "internal/reflectlite.TypeOf", "(internal/reflectlite.Value).Elem", "(internal/reflectlite.Value).Set"], unfollowed := true, recurses := true, named := ["errors.errorType"], apart := false, laid := [("errors.errorType", laid_errors_errorType)], narrowed := true }
def ZoneSpansUptoSaid : Prop := zoneSpansUptoRow.holds Tryd.pinned (OpenSpec.upto zoneSpansSpec)

/-- 'fuseelaw12.SmearSteps', WHERE WHAT IT READS IS OF BULK AT MOST 1048576: true; the input reads as it did. -/
def smearStepsUptoRow : OpenClaim := { program := "ytehiienjodicpaadoor", sum := "59cdfe20dccad83240987b1427591936572d8009e98457d6239e62b8ba3c6cb7", func := "fusee/fuseelaw12.SmearSteps", spec := "smearSteps", inPlace := ["internal/reflectlite.ValueOf", "(internal/reflectlite.Value).Type", "(internal/reflectlite.Value).IsNil", "internal/reflectlite.TypeOf", "(internal/reflectlite.Value).Elem", "(internal/reflectlite.Value).Set"], unfollowed := true, recurses := true, named := ["math/bits.divideError", "math/bits.overflowError", "errors.errorType"], apart := false, laid := [("errors.errorType", laid_errors_errorType)], narrowed := true }
def SmearStepsUptoSaid : Prop := smearStepsUptoRow.holds Tryd.pinned (OpenSpec.upto smearStepsSpec)

/-- 'fuseelaw12.SmearTells', WHERE WHAT IT READS IS OF BULK AT MOST 1048576: true; the input reads as it did. -/
def smearTellsUptoRow : OpenClaim := { program := "ytehiienjodicpaadoor", sum := "59cdfe20dccad83240987b1427591936572d8009e98457d6239e62b8ba3c6cb7", func := "fusee/fuseelaw12.SmearTells", spec := "smearTells", inPlace := ["internal/reflectlite.ValueOf", "(internal/reflectlite.Value).Type", "(internal/reflectlite.Value).IsNil", "internal/reflectlite.TypeOf", "(internal/reflectlite.Value).Elem", "(internal/reflectlite.Value).Set"], unfollowed := true, recurses := true, named := ["math/bits.divideError", "math/bits.overflowError", "errors.errorType"], apart := false, laid := [("errors.errorType", laid_errors_errorType)], narrowed := true }
def SmearTellsUptoSaid : Prop := smearTellsUptoRow.holds Tryd.pinned (OpenSpec.upto smearTellsSpec)

/-- 'fuseelaw12.SmearOnward', WHERE WHAT IT READS IS OF BULK AT MOST 1048576: true; the input reads as it did. -/
def smearOnwardUptoRow : OpenClaim := { program := "ytehiienjodicpaadoor", sum := "59cdfe20dccad83240987b1427591936572d8009e98457d6239e62b8ba3c6cb7", func := "fusee/fuseelaw12.SmearOnward", spec := "smearOnward", inPlace := ["internal/reflectlite.ValueOf", "(internal/reflectlite.Value).Type", "(internal/reflectlite.Value).IsNil", "internal/reflectlite.TypeOf", "(internal/reflectlite.Value).Elem", "(internal/reflectlite.Value).Set"], unfollowed := true, recurses := true, named := ["math/bits.divideError", "math/bits.overflowError", "errors.errorType"], apart := false, laid := [("errors.errorType", laid_errors_errorType)], narrowed := true }
def SmearOnwardUptoSaid : Prop := smearOnwardUptoRow.holds Tryd.pinned (OpenSpec.upto smearOnwardSpec)

/-- 'fuseelaw12.SmearOutside', WHERE WHAT IT READS IS OF BULK AT MOST 1048576: true; the input reads as it did. -/
def smearOutsideUptoRow : OpenClaim := { program := "ytehiienjodicpaadoor", sum := "59cdfe20dccad83240987b1427591936572d8009e98457d6239e62b8ba3c6cb7", func := "fusee/fuseelaw12.SmearOutside", spec := "smearOutside", inPlace := ["internal/reflectlite.ValueOf", "(internal/reflectlite.Value).Type", "(internal/reflectlite.Value).IsNil", "internal/reflectlite.TypeOf", "(internal/reflectlite.Value).Elem", "(internal/reflectlite.Value).Set"], unfollowed := true, recurses := true, named := ["math/bits.divideError", "math/bits.overflowError", "errors.errorType"], apart := false, laid := [("errors.errorType", laid_errors_errorType)], narrowed := true }
def SmearOutsideUptoSaid : Prop := smearOutsideUptoRow.holds Tryd.pinned (OpenSpec.upto smearOutsideSpec)

end Rows
end Go.Proofs.YtehiienjodicpaaDoor
