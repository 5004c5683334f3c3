/-
  NARROWER THAN 'FOR EVERY INPUT', by the rows' own cells (each row's printed sentence says how): WideSums: laid · WideParts: laid · BlobForms: laid · BlobBack: laid · LeapForms: laid · ZoneForms: laid · SmearSteps: laid · SmearTells: laid · SmearOnward: laid · SmearOutside: laid · FuzzTells: laid · FuzzHolds: laid · PolicyForms: laid · PolicyBack: laid · NetSteps: laid · NetCounts: laid.
  DERIVED. THE GIVEN ROWS OF THIS SEAT. 16 by the template 'for every input the law returns true; each argument reads behind the call as it read before'; 0 by the template 'total and deterministic' (their statements: YtbjgopehomnpgaaDoorTotals.lean).
  GIVEN WITH THE SEED: the statements are not yours to turn. If you find one false, say at which input.
  Laid BY PROGRAM, IN A SANDBOX (cutbox-rows.mjs): the forced cells as the released guide's own fill.sh prints them over the translation cdce12d44412bd10… (all of the seat's roots in one cut). By AI agents, Wed Nov 11 2026. No macro, syntax, notation, axiom, sorry.
-/
import Derived.Test.YtbjgopehomnpgaaDoorChecked
import GoSem.Claim
import GoSem.ClaimJoined
import GoSem.ClaimMapViews
import Derived.JoinedTies
import Derived.KernelRfl
namespace Go.Proofs.YtbjgopehomnpgaaDoor
/- THE CELL 'sum', in the pinned program and in every row, IS THE sha256 OF THE DUMP (.gsa) THAT YtbjgopehomnpgaaDoorProg.lean LOADS. Nothing in Lean hashes anything: it is a label: what it is worth is what the hold of that sum in a sandbox is worth. -/
noncomputable def Tryd.pinned : Pinned := { name := "ytbjgopehomnpgaadoor", sum := "cdce12d44412bd1083b8e2c52f8464d1caf212dbee23365f0125b3a7e4f97e2e", checked := Tryd.checked }
namespace Rows
def none {H : Type} : Left H := { results := [], args := [] }

/- WHAT THE LISTED PACKAGE-LEVEL VARIABLES READ AS WHEN THE CALL BEGINS. Each datum BY PROGRAM (the guide's laid-datum.mjs) off the statement by which the dump's own 'gosem.cut.vars' lays the variable. In a bare row this is a premise. The card (YtbjgopehomnpgaaDoorCards.lean) ties it to the program's text. -/
def laid_errors_errorType {H : Type} : DataW H := .iface "internal/reflectlite.rtype" (.agg [.ptr (.lit (.string [101, 114, 114, 111, 114]))])

/-- 'fuseelaw02.WideSums': WHATEVER THE INPUT: true; the input reads as it did. -/
def wideSumsSpec : ChangeSpec := { name := "wideSums", fn := fun _ => fun
  | [d1, d2, d3] => { results := [.lit (.bool true)], args := [d1, d2, d3] }
  | _ => none }
def wideSumsRow : OpenClaim := { program := "ytbjgopehomnpgaadoor", sum := "cdce12d44412bd1083b8e2c52f8464d1caf212dbee23365f0125b3a7e4f97e2e", func := "fusee/fuseelaw02.WideSums", spec := "wideSums", inPlace := ["math/bits.Add64", "internal/reflectlite.ValueOf", "(internal/reflectlite.Value).Type", "(internal/reflectlite.Value).IsNil", "internal/reflectlite.TypeOf", "(internal/reflectlite.Value).Elem", "(internal/reflectlite.Value).Set"], unfollowed := true, recurses := true, named := ["errors.errorType", "math/bits.divideError", "math/bits.overflowError"], apart := false, laid := [("errors.errorType", laid_errors_errorType)] }
def WideSumsSaid : Prop := wideSumsRow.holds Tryd.pinned (OpenSpec.ofChange wideSumsSpec)

/-- ITS FALSE NEIGHBOUR: 'it returns false'. Refute it at one input. -/
def wideSumsWrong : ChangeSpec := { name := "wideSums", fn := fun _ => fun
  | [d1, d2, d3] => { results := [.lit (.bool false)], args := [d1, d2, d3] }
  | _ => none }
def WideSumsWrongFalsely : Prop := wideSumsRow.holds Tryd.pinned (OpenSpec.ofChange wideSumsWrong)

/-- 'fuseelaw02.WideParts': WHATEVER THE INPUT: true; the input reads as it did. -/
def widePartsSpec : ChangeSpec := { name := "wideParts", fn := fun _ => fun
  | [d1, d2, d3] => { results := [.lit (.bool true)], args := [d1, d2, d3] }
  | _ => none }
def widePartsRow : OpenClaim := { program := "ytbjgopehomnpgaadoor", sum := "cdce12d44412bd1083b8e2c52f8464d1caf212dbee23365f0125b3a7e4f97e2e", func := "fusee/fuseelaw02.WideParts", spec := "wideParts", inPlace := ["internal/reflectlite.ValueOf", "(internal/reflectlite.Value).Type", "(internal/reflectlite.Value).IsNil", "internal/reflectlite.TypeOf", "(internal/reflectlite.Value).Elem", "(internal/reflectlite.Value).Set"], unfollowed := true, recurses := true, named := ["math/bits.divideError", "math/bits.overflowError", "errors.errorType"], apart := false, laid := [("errors.errorType", laid_errors_errorType)] }
def WidePartsSaid : Prop := widePartsRow.holds Tryd.pinned (OpenSpec.ofChange widePartsSpec)

/-- ITS FALSE NEIGHBOUR: 'it returns false'. Refute it at one input. -/
def widePartsWrong : ChangeSpec := { name := "wideParts", fn := fun _ => fun
  | [d1, d2, d3] => { results := [.lit (.bool false)], args := [d1, d2, d3] }
  | _ => none }
def WidePartsWrongFalsely : Prop := widePartsRow.holds Tryd.pinned (OpenSpec.ofChange widePartsWrong)

/-- 'fuseelaw06.BlobForms': WHATEVER THE INPUT: true; the input reads as it did. -/
def blobFormsSpec : ChangeSpec := { name := "blobForms", fn := fun _ => fun
  | [d1, d2, d3] => { results := [.lit (.bool true)], args := [d1, d2, d3] }
  | _ => none }
def blobFormsRow : OpenClaim := { program := "ytbjgopehomnpgaadoor", sum := "cdce12d44412bd1083b8e2c52f8464d1caf212dbee23365f0125b3a7e4f97e2e", func := "fusee/fuseelaw06.BlobForms", spec := "blobForms", inPlace := ["internal/reflectlite.ValueOf", "(internal/reflectlite.Value).Type", "(internal/reflectlite.Value).IsNil", "internal/reflectlite.TypeOf", "(internal/reflectlite.Value).Elem", "(internal/reflectlite.Value).Set"], unfollowed := true, recurses := true, named := ["errors.errorType"], apart := false, laid := [("errors.errorType", laid_errors_errorType)] }
def BlobFormsSaid : Prop := blobFormsRow.holds Tryd.pinned (OpenSpec.ofChange blobFormsSpec)

/-- ITS FALSE NEIGHBOUR: 'it returns false'. Refute it at one input. -/
def blobFormsWrong : ChangeSpec := { name := "blobForms", fn := fun _ => fun
  | [d1, d2, d3] => { results := [.lit (.bool false)], args := [d1, d2, d3] }
  | _ => none }
def BlobFormsWrongFalsely : Prop := blobFormsRow.holds Tryd.pinned (OpenSpec.ofChange blobFormsWrong)

/-- 'fuseelaw06.BlobBack': WHATEVER THE INPUT: true; the input reads as it did. -/
def blobBackSpec : ChangeSpec := { name := "blobBack", fn := fun _ => fun
  | [d1, d2, d3] => { results := [.lit (.bool true)], args := [d1, d2, d3] }
  | _ => none }
def blobBackRow : OpenClaim := { program := "ytbjgopehomnpgaadoor", sum := "cdce12d44412bd1083b8e2c52f8464d1caf212dbee23365f0125b3a7e4f97e2e", func := "fusee/fuseelaw06.BlobBack", spec := "blobBack", inPlace := ["internal/reflectlite.ValueOf", "(internal/reflectlite.Value).Type", "(internal/reflectlite.Value).IsNil", "internal/reflectlite.TypeOf", "(internal/reflectlite.Value).Elem", "(internal/reflectlite.Value).Set"], unfollowed := true, recurses := true, named := ["errors.errorType"], apart := false, laid := [("errors.errorType", laid_errors_errorType)] }
def BlobBackSaid : Prop := blobBackRow.holds Tryd.pinned (OpenSpec.ofChange blobBackSpec)

/-- ITS FALSE NEIGHBOUR: 'it returns false'. Refute it at one input. -/
def blobBackWrong : ChangeSpec := { name := "blobBack", fn := fun _ => fun
  | [d1, d2, d3] => { results := [.lit (.bool false)], args := [d1, d2, d3] }
  | _ => none }
def BlobBackWrongFalsely : Prop := blobBackRow.holds Tryd.pinned (OpenSpec.ofChange blobBackWrong)

/-- 'fuseelaw09.LeapForms': WHATEVER THE INPUT: true; the input reads as it did. -/
def leapFormsSpec : ChangeSpec := { name := "leapForms", fn := fun _ => fun
  | [d1, d2] => { results := [.lit (.bool true)], args := [d1, d2] }
  | _ => none }
def leapFormsRow : OpenClaim := { program := "ytbjgopehomnpgaadoor", sum := "cdce12d44412bd1083b8e2c52f8464d1caf212dbee23365f0125b3a7e4f97e2e", func := "fusee/fuseelaw09.LeapForms", spec := "leapForms", inPlace := ["internal/reflectlite.ValueOf", "(internal/reflectlite.Value).Type", "(internal/reflectlite.Value).IsNil", "internal/reflectlite.TypeOf", "(internal/reflectlite.Value).Elem", "(internal/reflectlite.Value).Set"], unfollowed := true, recurses := true, named := ["errors.errorType"], apart := false, laid := [("errors.errorType", laid_errors_errorType)] }
def LeapFormsSaid : Prop := leapFormsRow.holds Tryd.pinned (OpenSpec.ofChange leapFormsSpec)

/-- ITS FALSE NEIGHBOUR: 'it returns false'. Refute it at one input. -/
def leapFormsWrong : ChangeSpec := { name := "leapForms", fn := fun _ => fun
  | [d1, d2] => { results := [.lit (.bool false)], args := [d1, d2] }
  | _ => none }
def LeapFormsWrongFalsely : Prop := leapFormsRow.holds Tryd.pinned (OpenSpec.ofChange leapFormsWrong)

/-- 'fuseelaw10.ZoneForms': WHATEVER THE INPUT: true; the input reads as it did. -/
def zoneFormsSpec : ChangeSpec := { name := "zoneForms", fn := fun _ => fun
  | [d1, d2] => { results := [.lit (.bool true)], args := [d1, d2] }
  | _ => none }
def zoneFormsRow : OpenClaim := { program := "ytbjgopehomnpgaadoor", sum := "cdce12d44412bd1083b8e2c52f8464d1caf212dbee23365f0125b3a7e4f97e2e", func := "fusee/fuseelaw10.ZoneForms", spec := "zoneForms", inPlace := ["internal/reflectlite.ValueOf", "(internal/reflectlite.Value).Type", "(internal/reflectlite.Value).IsNil", "internal/reflectlite.TypeOf", "(internal/reflectlite.Value).Elem", "(internal/reflectlite.Value).Set"], unfollowed := true, recurses := true, named := ["errors.errorType"], apart := false, laid := [("errors.errorType", laid_errors_errorType)] }
def ZoneFormsSaid : Prop := zoneFormsRow.holds Tryd.pinned (OpenSpec.ofChange zoneFormsSpec)

/-- ITS FALSE NEIGHBOUR: 'it returns false'. Refute it at one input. -/
def zoneFormsWrong : ChangeSpec := { name := "zoneForms", fn := fun _ => fun
  | [d1, d2] => { results := [.lit (.bool false)], args := [d1, d2] }
  | _ => none }
def ZoneFormsWrongFalsely : Prop := zoneFormsRow.holds Tryd.pinned (OpenSpec.ofChange zoneFormsWrong)

/-- 'fuseelaw12.SmearSteps': WHATEVER THE INPUT: true; the input reads as it did. -/
def smearStepsSpec : ChangeSpec := { name := "smearSteps", fn := fun _ => fun
  | [d1, d2, d3] => { results := [.lit (.bool true)], args := [d1, d2, d3] }
  | _ => none }
def smearStepsRow : OpenClaim := { program := "ytbjgopehomnpgaadoor", sum := "cdce12d44412bd1083b8e2c52f8464d1caf212dbee23365f0125b3a7e4f97e2e", func := "fusee/fuseelaw12.SmearSteps", spec := "smearSteps", inPlace := ["internal/reflectlite.ValueOf", "(internal/reflectlite.Value).Type", "(internal/reflectlite.Value).IsNil", "internal/reflectlite.TypeOf", "(internal/reflectlite.Value).Elem", "(internal/reflectlite.Value).Set"], unfollowed := true, recurses := true, named := ["math/bits.divideError", "math/bits.overflowError", "errors.errorType"], apart := false, laid := [("errors.errorType", laid_errors_errorType)] }
def SmearStepsSaid : Prop := smearStepsRow.holds Tryd.pinned (OpenSpec.ofChange smearStepsSpec)

/-- ITS FALSE NEIGHBOUR: 'it returns false'. Refute it at one input. -/
def smearStepsWrong : ChangeSpec := { name := "smearSteps", fn := fun _ => fun
  | [d1, d2, d3] => { results := [.lit (.bool false)], args := [d1, d2, d3] }
  | _ => none }
def SmearStepsWrongFalsely : Prop := smearStepsRow.holds Tryd.pinned (OpenSpec.ofChange smearStepsWrong)

/-- 'fuseelaw12.SmearTells': WHATEVER THE INPUT: true; the input reads as it did. -/
def smearTellsSpec : ChangeSpec := { name := "smearTells", fn := fun _ => fun
  | [d1, d2, d3] => { results := [.lit (.bool true)], args := [d1, d2, d3] }
  | _ => none }
def smearTellsRow : OpenClaim := { program := "ytbjgopehomnpgaadoor", sum := "cdce12d44412bd1083b8e2c52f8464d1caf212dbee23365f0125b3a7e4f97e2e", func := "fusee/fuseelaw12.SmearTells", spec := "smearTells", inPlace := ["internal/reflectlite.ValueOf", "(internal/reflectlite.Value).Type", "(internal/reflectlite.Value).IsNil", "internal/reflectlite.TypeOf", "(internal/reflectlite.Value).Elem", "(internal/reflectlite.Value).Set"], unfollowed := true, recurses := true, named := ["math/bits.divideError", "math/bits.overflowError", "errors.errorType"], apart := false, laid := [("errors.errorType", laid_errors_errorType)] }
def SmearTellsSaid : Prop := smearTellsRow.holds Tryd.pinned (OpenSpec.ofChange smearTellsSpec)

/-- ITS FALSE NEIGHBOUR: 'it returns false'. Refute it at one input. -/
def smearTellsWrong : ChangeSpec := { name := "smearTells", fn := fun _ => fun
  | [d1, d2, d3] => { results := [.lit (.bool false)], args := [d1, d2, d3] }
  | _ => none }
def SmearTellsWrongFalsely : Prop := smearTellsRow.holds Tryd.pinned (OpenSpec.ofChange smearTellsWrong)

/-- 'fuseelaw12.SmearOnward': WHATEVER THE INPUT: true; the input reads as it did. -/
def smearOnwardSpec : ChangeSpec := { name := "smearOnward", fn := fun _ => fun
  | [d1, d2, d3] => { results := [.lit (.bool true)], args := [d1, d2, d3] }
  | _ => none }
def smearOnwardRow : OpenClaim := { program := "ytbjgopehomnpgaadoor", sum := "cdce12d44412bd1083b8e2c52f8464d1caf212dbee23365f0125b3a7e4f97e2e", func := "fusee/fuseelaw12.SmearOnward", spec := "smearOnward", inPlace := ["internal/reflectlite.ValueOf", "(internal/reflectlite.Value).Type", "(internal/reflectlite.Value).IsNil", "internal/reflectlite.TypeOf", "(internal/reflectlite.Value).Elem", "(internal/reflectlite.Value).Set"], unfollowed := true, recurses := true, named := ["math/bits.divideError", "math/bits.overflowError", "errors.errorType"], apart := false, laid := [("errors.errorType", laid_errors_errorType)] }
def SmearOnwardSaid : Prop := smearOnwardRow.holds Tryd.pinned (OpenSpec.ofChange smearOnwardSpec)

/-- ITS FALSE NEIGHBOUR: 'it returns false'. Refute it at one input. -/
def smearOnwardWrong : ChangeSpec := { name := "smearOnward", fn := fun _ => fun
  | [d1, d2, d3] => { results := [.lit (.bool false)], args := [d1, d2, d3] }
  | _ => none }
def SmearOnwardWrongFalsely : Prop := smearOnwardRow.holds Tryd.pinned (OpenSpec.ofChange smearOnwardWrong)

/-- 'fuseelaw12.SmearOutside': WHATEVER THE INPUT: true; the input reads as it did. -/
def smearOutsideSpec : ChangeSpec := { name := "smearOutside", fn := fun _ => fun
  | [d1, d2, d3] => { results := [.lit (.bool true)], args := [d1, d2, d3] }
  | _ => none }
def smearOutsideRow : OpenClaim := { program := "ytbjgopehomnpgaadoor", sum := "cdce12d44412bd1083b8e2c52f8464d1caf212dbee23365f0125b3a7e4f97e2e", func := "fusee/fuseelaw12.SmearOutside", spec := "smearOutside", inPlace := ["internal/reflectlite.ValueOf", "(internal/reflectlite.Value).Type", "(internal/reflectlite.Value).IsNil", "internal/reflectlite.TypeOf", "(internal/reflectlite.Value).Elem", "(internal/reflectlite.Value).Set"], unfollowed := true, recurses := true, named := ["math/bits.divideError", "math/bits.overflowError", "errors.errorType"], apart := false, laid := [("errors.errorType", laid_errors_errorType)] }
def SmearOutsideSaid : Prop := smearOutsideRow.holds Tryd.pinned (OpenSpec.ofChange smearOutsideSpec)

/-- ITS FALSE NEIGHBOUR: 'it returns false'. Refute it at one input. -/
def smearOutsideWrong : ChangeSpec := { name := "smearOutside", fn := fun _ => fun
  | [d1, d2, d3] => { results := [.lit (.bool false)], args := [d1, d2, d3] }
  | _ => none }
def SmearOutsideWrongFalsely : Prop := smearOutsideRow.holds Tryd.pinned (OpenSpec.ofChange smearOutsideWrong)

/-- 'fuseelaw25.FuzzTells': WHATEVER THE INPUT: true; the input reads as it did. -/
def fuzzTellsSpec : ChangeSpec := { name := "fuzzTells", fn := fun _ => fun
  | [d1, d2, d3] => { results := [.lit (.bool true)], args := [d1, d2, d3] }
  | _ => none }
def fuzzTellsRow : OpenClaim := { program := "ytbjgopehomnpgaadoor", sum := "cdce12d44412bd1083b8e2c52f8464d1caf212dbee23365f0125b3a7e4f97e2e", func := "fusee/fuseelaw25.FuzzTells", spec := "fuzzTells", inPlace := ["internal/reflectlite.ValueOf", "(internal/reflectlite.Value).Type", "(internal/reflectlite.Value).IsNil", "internal/reflectlite.TypeOf", "(internal/reflectlite.Value).Elem", "(internal/reflectlite.Value).Set"], unfollowed := true, recurses := true, named := ["errors.errorType"], apart := false, laid := [("errors.errorType", laid_errors_errorType)] }
def FuzzTellsSaid : Prop := fuzzTellsRow.holds Tryd.pinned (OpenSpec.ofChange fuzzTellsSpec)

/-- ITS FALSE NEIGHBOUR: 'it returns false'. Refute it at one input. -/
def fuzzTellsWrong : ChangeSpec := { name := "fuzzTells", fn := fun _ => fun
  | [d1, d2, d3] => { results := [.lit (.bool false)], args := [d1, d2, d3] }
  | _ => none }
def FuzzTellsWrongFalsely : Prop := fuzzTellsRow.holds Tryd.pinned (OpenSpec.ofChange fuzzTellsWrong)

/-- 'fuseelaw25.FuzzHolds': WHATEVER THE INPUT: true; the input reads as it did. -/
def fuzzHoldsSpec : ChangeSpec := { name := "fuzzHolds", fn := fun _ => fun
  | [d1, d2, d3] => { results := [.lit (.bool true)], args := [d1, d2, d3] }
  | _ => none }
def fuzzHoldsRow : OpenClaim := { program := "ytbjgopehomnpgaadoor", sum := "cdce12d44412bd1083b8e2c52f8464d1caf212dbee23365f0125b3a7e4f97e2e", func := "fusee/fuseelaw25.FuzzHolds", spec := "fuzzHolds", inPlace := ["internal/reflectlite.ValueOf", "(internal/reflectlite.Value).Type", "(internal/reflectlite.Value).IsNil", "internal/reflectlite.TypeOf", "(internal/reflectlite.Value).Elem", "(internal/reflectlite.Value).Set"], unfollowed := true, recurses := true, named := ["errors.errorType"], apart := false, laid := [("errors.errorType", laid_errors_errorType)] }
def FuzzHoldsSaid : Prop := fuzzHoldsRow.holds Tryd.pinned (OpenSpec.ofChange fuzzHoldsSpec)

/-- ITS FALSE NEIGHBOUR: 'it returns false'. Refute it at one input. -/
def fuzzHoldsWrong : ChangeSpec := { name := "fuzzHolds", fn := fun _ => fun
  | [d1, d2, d3] => { results := [.lit (.bool false)], args := [d1, d2, d3] }
  | _ => none }
def FuzzHoldsWrongFalsely : Prop := fuzzHoldsRow.holds Tryd.pinned (OpenSpec.ofChange fuzzHoldsWrong)

/-- 'fuseelaw28.PolicyForms': WHATEVER THE INPUT: true; the input reads as it did. -/
def policyFormsSpec : ChangeSpec := { name := "policyForms", fn := fun _ => fun
  | [d1, d2, d3] => { results := [.lit (.bool true)], args := [d1, d2, d3] }
  | _ => none }
def policyFormsRow : OpenClaim := { program := "ytbjgopehomnpgaadoor", sum := "cdce12d44412bd1083b8e2c52f8464d1caf212dbee23365f0125b3a7e4f97e2e", func := "fusee/fuseelaw28.PolicyForms", spec := "policyForms", inPlace := ["internal/reflectlite.ValueOf", "(internal/reflectlite.Value).Type", "(internal/reflectlite.Value).IsNil", "internal/reflectlite.TypeOf", "(internal/reflectlite.Value).Elem", "(internal/reflectlite.Value).Set"], unfollowed := true, recurses := true, named := ["errors.errorType"], apart := false, laid := [("errors.errorType", laid_errors_errorType)] }
def PolicyFormsSaid : Prop := policyFormsRow.holds Tryd.pinned (OpenSpec.ofChange policyFormsSpec)

/-- ITS FALSE NEIGHBOUR: 'it returns false'. Refute it at one input. -/
def policyFormsWrong : ChangeSpec := { name := "policyForms", fn := fun _ => fun
  | [d1, d2, d3] => { results := [.lit (.bool false)], args := [d1, d2, d3] }
  | _ => none }
def PolicyFormsWrongFalsely : Prop := policyFormsRow.holds Tryd.pinned (OpenSpec.ofChange policyFormsWrong)

/-- 'fuseelaw28.PolicyBack': WHATEVER THE INPUT: true; the input reads as it did. -/
def policyBackSpec : ChangeSpec := { name := "policyBack", fn := fun _ => fun
  | [d1, d2] => { results := [.lit (.bool true)], args := [d1, d2] }
  | _ => none }
def policyBackRow : OpenClaim := { program := "ytbjgopehomnpgaadoor", sum := "cdce12d44412bd1083b8e2c52f8464d1caf212dbee23365f0125b3a7e4f97e2e", func := "fusee/fuseelaw28.PolicyBack", spec := "policyBack", inPlace := ["internal/reflectlite.ValueOf", "(internal/reflectlite.Value).Type", "(internal/reflectlite.Value).IsNil", "internal/reflectlite.TypeOf", "(internal/reflectlite.Value).Elem", "(internal/reflectlite.Value).Set"], unfollowed := true, recurses := true, named := ["errors.errorType"], apart := false, laid := [("errors.errorType", laid_errors_errorType)] }
def PolicyBackSaid : Prop := policyBackRow.holds Tryd.pinned (OpenSpec.ofChange policyBackSpec)

/-- ITS FALSE NEIGHBOUR: 'it returns false'. Refute it at one input. -/
def policyBackWrong : ChangeSpec := { name := "policyBack", fn := fun _ => fun
  | [d1, d2] => { results := [.lit (.bool false)], args := [d1, d2] }
  | _ => none }
def PolicyBackWrongFalsely : Prop := policyBackRow.holds Tryd.pinned (OpenSpec.ofChange policyBackWrong)

/-- 'fuseelaw32.NetSteps': WHATEVER THE INPUT: true; the input reads as it did. -/
def netStepsSpec : ChangeSpec := { name := "netSteps", fn := fun _ => fun
  | [d1, d2, d3] => { results := [.lit (.bool true)], args := [d1, d2, d3] }
  | _ => none }
def netStepsRow : OpenClaim := { program := "ytbjgopehomnpgaadoor", sum := "cdce12d44412bd1083b8e2c52f8464d1caf212dbee23365f0125b3a7e4f97e2e", func := "fusee/fuseelaw32.NetSteps", spec := "netSteps", inPlace := ["internal/reflectlite.ValueOf", "(internal/reflectlite.Value).Type", "(internal/reflectlite.Value).IsNil", "internal/reflectlite.TypeOf", "(internal/reflectlite.Value).Elem", "(internal/reflectlite.Value).Set"], unfollowed := true, recurses := true, named := ["errors.errorType"], apart := false, laid := [("errors.errorType", laid_errors_errorType)] }
def NetStepsSaid : Prop := netStepsRow.holds Tryd.pinned (OpenSpec.ofChange netStepsSpec)

/-- ITS FALSE NEIGHBOUR: 'it returns false'. Refute it at one input. -/
def netStepsWrong : ChangeSpec := { name := "netSteps", fn := fun _ => fun
  | [d1, d2, d3] => { results := [.lit (.bool false)], args := [d1, d2, d3] }
  | _ => none }
def NetStepsWrongFalsely : Prop := netStepsRow.holds Tryd.pinned (OpenSpec.ofChange netStepsWrong)

/-- 'fuseelaw32.NetCounts': WHATEVER THE INPUT: true; the input reads as it did. -/
def netCountsSpec : ChangeSpec := { name := "netCounts", fn := fun _ => fun
  | [d] => { results := [.lit (.bool true)], args := [d] }
  | _ => none }
def netCountsRow : OpenClaim := { program := "ytbjgopehomnpgaadoor", sum := "cdce12d44412bd1083b8e2c52f8464d1caf212dbee23365f0125b3a7e4f97e2e", func := "fusee/fuseelaw32.NetCounts", spec := "netCounts", inPlace := ["internal/reflectlite.ValueOf", "(internal/reflectlite.Value).Type", "(internal/reflectlite.Value).IsNil", "internal/reflectlite.TypeOf", "(internal/reflectlite.Value).Elem", "(internal/reflectlite.Value).Set"], unfollowed := true, recurses := true, named := ["errors.errorType"], apart := false, laid := [("errors.errorType", laid_errors_errorType)] }
def NetCountsSaid : Prop := netCountsRow.holds Tryd.pinned (OpenSpec.ofChange netCountsSpec)

/-- ITS FALSE NEIGHBOUR: 'it returns false'. Refute it at one input. -/
def netCountsWrong : ChangeSpec := { name := "netCounts", fn := fun _ => fun
  | [d] => { results := [.lit (.bool false)], args := [d] }
  | _ => none }
def NetCountsWrongFalsely : Prop := netCountsRow.holds Tryd.pinned (OpenSpec.ofChange netCountsWrong)

/- THE SECOND FORM. 'bulk': how many values and letters a reading holds, each counted each time it is reached (what is shared counts as often as it is met; a slice's spare places count too). A statement '..UptoSaid' is the law's where the arguments, and the package variables that the reading takes, are together of bulk at most 1048576: NARROWER than '..Said'. Prove '..Said' where nothing that the law and all that it calls make is longer than what came in: it says more and counts as full. Else prove '..UptoSaid'. A law counts once. -/
mutual
def uptoBulk {H : Type} : DataW H → Nat
  | .lit (.string bytes) => bytes.length + 1
  | .lit _ => 1
  | .nil => 1
  | .ptr d => uptoBulk d + 1
  | .slice elems spare => uptoBulkAll elems + uptoBulkAll spare + 1
  | .agg parts => uptoBulkAll parts + 1
  | .iface _ d => uptoBulk d + 1
  | .map entries => uptoBulkEntries entries + 1
  | .held _ => 1
def uptoBulkAll {H : Type} : List (DataW H) → Nat
  | [] => 0
  | d :: r => uptoBulk d + uptoBulkAll r
def uptoBulkEntries {H : Type} : List (Lit × DataW H) → Nat
  | [] => 0
  | x :: r => uptoBulkEntry x + uptoBulkEntries r
def uptoBulkEntry {H : Type} : Lit × DataW H → Nat
  | (.string bytes, d) => bytes.length + uptoBulk d + 1
  | (_, d) => uptoBulk d + 1
 end
def uptoSmall : (H : Type) → List (DataW H) → Bool := fun _ ds => decide (uptoBulkAll ds ≤ 1048576)
def OpenSpec.upto (s : _root_.Go.ChangeSpec) : _root_.Go.OpenSpec := { _root_.Go.OpenSpec.ofChange s with cond := some uptoSmall }

/-- 'fuseelaw02.WideSums', WHERE WHAT IT READS IS OF BULK AT MOST 1048576: true; the input reads as it did. -/
def wideSumsUptoRow : OpenClaim := { program := "ytbjgopehomnpgaadoor", sum := "cdce12d44412bd1083b8e2c52f8464d1caf212dbee23365f0125b3a7e4f97e2e", func := "fusee/fuseelaw02.WideSums", spec := "wideSums", inPlace := ["math/bits.Add64", "internal/reflectlite.ValueOf", "(internal/reflectlite.Value).Type", "(internal/reflectlite.Value).IsNil", "internal/reflectlite.TypeOf", "(internal/reflectlite.Value).Elem", "(internal/reflectlite.Value).Set"], unfollowed := true, recurses := true, named := ["errors.errorType", "math/bits.divideError", "math/bits.overflowError"], apart := false, laid := [("errors.errorType", laid_errors_errorType)], narrowed := true }
def WideSumsUptoSaid : Prop := wideSumsUptoRow.holds Tryd.pinned (OpenSpec.upto wideSumsSpec)

/-- 'fuseelaw02.WideParts', WHERE WHAT IT READS IS OF BULK AT MOST 1048576: true; the input reads as it did. -/
def widePartsUptoRow : OpenClaim := { program := "ytbjgopehomnpgaadoor", sum := "cdce12d44412bd1083b8e2c52f8464d1caf212dbee23365f0125b3a7e4f97e2e", func := "fusee/fuseelaw02.WideParts", spec := "wideParts", inPlace := ["internal/reflectlite.ValueOf", "(internal/reflectlite.Value).Type", "(internal/reflectlite.Value).IsNil", "internal/reflectlite.TypeOf", "(internal/reflectlite.Value).Elem", "(internal/reflectlite.Value).Set"], unfollowed := true, recurses := true, named := ["math/bits.divideError", "math/bits.overflowError", "errors.errorType"], apart := false, laid := [("errors.errorType", laid_errors_errorType)], narrowed := true }
def WidePartsUptoSaid : Prop := widePartsUptoRow.holds Tryd.pinned (OpenSpec.upto widePartsSpec)

/-- 'fuseelaw06.BlobForms', WHERE WHAT IT READS IS OF BULK AT MOST 1048576: true; the input reads as it did. -/
def blobFormsUptoRow : OpenClaim := { program := "ytbjgopehomnpgaadoor", sum := "cdce12d44412bd1083b8e2c52f8464d1caf212dbee23365f0125b3a7e4f97e2e", func := "fusee/fuseelaw06.BlobForms", spec := "blobForms", inPlace := ["internal/reflectlite.ValueOf", "(internal/reflectlite.Value).Type", "(internal/reflectlite.Value).IsNil", "internal/reflectlite.TypeOf", "(internal/reflectlite.Value).Elem", "(internal/reflectlite.Value).Set"], unfollowed := true, recurses := true, named := ["errors.errorType"], apart := false, laid := [("errors.errorType", laid_errors_errorType)], narrowed := true }
def BlobFormsUptoSaid : Prop := blobFormsUptoRow.holds Tryd.pinned (OpenSpec.upto blobFormsSpec)

/-- 'fuseelaw06.BlobBack', WHERE WHAT IT READS IS OF BULK AT MOST 1048576: true; the input reads as it did. -/
def blobBackUptoRow : OpenClaim := { program := "ytbjgopehomnpgaadoor", sum := "cdce12d44412bd1083b8e2c52f8464d1caf212dbee23365f0125b3a7e4f97e2e", func := "fusee/fuseelaw06.BlobBack", spec := "blobBack", inPlace := ["internal/reflectlite.ValueOf", "(internal/reflectlite.Value).Type", "(internal/reflectlite.Value).IsNil", "internal/reflectlite.TypeOf", "(internal/reflectlite.Value).Elem", "(internal/reflectlite.Value).Set"], unfollowed := true, recurses := true, named := ["errors.errorType"], apart := false, laid := [("errors.errorType", laid_errors_errorType)], narrowed := true }
def BlobBackUptoSaid : Prop := blobBackUptoRow.holds Tryd.pinned (OpenSpec.upto blobBackSpec)

/-- 'fuseelaw09.LeapForms', WHERE WHAT IT READS IS OF BULK AT MOST 1048576: true; the input reads as it did. -/
def leapFormsUptoRow : OpenClaim := { program := "ytbjgopehomnpgaadoor", sum := "cdce12d44412bd1083b8e2c52f8464d1caf212dbee23365f0125b3a7e4f97e2e", func := "fusee/fuseelaw09.LeapForms", spec := "leapForms", inPlace := ["internal/reflectlite.ValueOf", "(internal/reflectlite.Value).Type", "(internal/reflectlite.Value).IsNil", "internal/reflectlite.TypeOf", "(internal/reflectlite.Value).Elem", "(internal/reflectlite.Value).Set"], unfollowed := true, recurses := true, named := ["errors.errorType"], apart := false, laid := [("errors.errorType", laid_errors_errorType)], narrowed := true }
def LeapFormsUptoSaid : Prop := leapFormsUptoRow.holds Tryd.pinned (OpenSpec.upto leapFormsSpec)

/-- 'fuseelaw10.ZoneForms', WHERE WHAT IT READS IS OF BULK AT MOST 1048576: true; the input reads as it did. -/
def zoneFormsUptoRow : OpenClaim := { program := "ytbjgopehomnpgaadoor", sum := "cdce12d44412bd1083b8e2c52f8464d1caf212dbee23365f0125b3a7e4f97e2e", func := "fusee/fuseelaw10.ZoneForms", spec := "zoneForms", inPlace := ["internal/reflectlite.ValueOf", "(internal/reflectlite.Value).Type", "(internal/reflectlite.Value).IsNil", "internal/reflectlite.TypeOf", "(internal/reflectlite.Value).Elem", "(internal/reflectlite.Value).Set"], unfollowed := true, recurses := true, named := ["errors.errorType"], apart := false, laid := [("errors.errorType", laid_errors_errorType)], narrowed := true }
def ZoneFormsUptoSaid : Prop := zoneFormsUptoRow.holds Tryd.pinned (OpenSpec.upto zoneFormsSpec)

/-- 'fuseelaw12.SmearSteps', WHERE WHAT IT READS IS OF BULK AT MOST 1048576: true; the input reads as it did. -/
def smearStepsUptoRow : OpenClaim := { program := "ytbjgopehomnpgaadoor", sum := "cdce12d44412bd1083b8e2c52f8464d1caf212dbee23365f0125b3a7e4f97e2e", func := "fusee/fuseelaw12.SmearSteps", spec := "smearSteps", inPlace := ["internal/reflectlite.ValueOf", "(internal/reflectlite.Value).Type", "(internal/reflectlite.Value).IsNil", "internal/reflectlite.TypeOf", "(internal/reflectlite.Value).Elem", "(internal/reflectlite.Value).Set"], unfollowed := true, recurses := true, named := ["math/bits.divideError", "math/bits.overflowError", "errors.errorType"], apart := false, laid := [("errors.errorType", laid_errors_errorType)], narrowed := true }
def SmearStepsUptoSaid : Prop := smearStepsUptoRow.holds Tryd.pinned (OpenSpec.upto smearStepsSpec)

/-- 'fuseelaw12.SmearTells', WHERE WHAT IT READS IS OF BULK AT MOST 1048576: true; the input reads as it did. -/
def smearTellsUptoRow : OpenClaim := { program := "ytbjgopehomnpgaadoor", sum := "cdce12d44412bd1083b8e2c52f8464d1caf212dbee23365f0125b3a7e4f97e2e", func := "fusee/fuseelaw12.SmearTells", spec := "smearTells", inPlace := ["internal/reflectlite.ValueOf", "(internal/reflectlite.Value).Type", "(internal/reflectlite.Value).IsNil", "internal/reflectlite.TypeOf", "(internal/reflectlite.Value).Elem", "(internal/reflectlite.Value).Set"], unfollowed := true, recurses := true, named := ["math/bits.divideError", "math/bits.overflowError", "errors.errorType"], apart := false, laid := [("errors.errorType", laid_errors_errorType)], narrowed := true }
def SmearTellsUptoSaid : Prop := smearTellsUptoRow.holds Tryd.pinned (OpenSpec.upto smearTellsSpec)

/-- 'fuseelaw12.SmearOnward', WHERE WHAT IT READS IS OF BULK AT MOST 1048576: true; the input reads as it did. -/
def smearOnwardUptoRow : OpenClaim := { program := "ytbjgopehomnpgaadoor", sum := "cdce12d44412bd1083b8e2c52f8464d1caf212dbee23365f0125b3a7e4f97e2e", func := "fusee/fuseelaw12.SmearOnward", spec := "smearOnward", inPlace := ["internal/reflectlite.ValueOf", "(internal/reflectlite.Value).Type", "(internal/reflectlite.Value).IsNil", "internal/reflectlite.TypeOf", "(internal/reflectlite.Value).Elem", "(internal/reflectlite.Value).Set"], unfollowed := true, recurses := true, named := ["math/bits.divideError", "math/bits.overflowError", "errors.errorType"], apart := false, laid := [("errors.errorType", laid_errors_errorType)], narrowed := true }
def SmearOnwardUptoSaid : Prop := smearOnwardUptoRow.holds Tryd.pinned (OpenSpec.upto smearOnwardSpec)

/-- 'fuseelaw12.SmearOutside', WHERE WHAT IT READS IS OF BULK AT MOST 1048576: true; the input reads as it did. -/
def smearOutsideUptoRow : OpenClaim := { program := "ytbjgopehomnpgaadoor", sum := "cdce12d44412bd1083b8e2c52f8464d1caf212dbee23365f0125b3a7e4f97e2e", func := "fusee/fuseelaw12.SmearOutside", spec := "smearOutside", inPlace := ["internal/reflectlite.ValueOf", "(internal/reflectlite.Value).Type", "(internal/reflectlite.Value).IsNil", "internal/reflectlite.TypeOf", "(internal/reflectlite.Value).Elem", "(internal/reflectlite.Value).Set"], unfollowed := true, recurses := true, named := ["math/bits.divideError", "math/bits.overflowError", "errors.errorType"], apart := false, laid := [("errors.errorType", laid_errors_errorType)], narrowed := true }
def SmearOutsideUptoSaid : Prop := smearOutsideUptoRow.holds Tryd.pinned (OpenSpec.upto smearOutsideSpec)

/-- 'fuseelaw25.FuzzTells', WHERE WHAT IT READS IS OF BULK AT MOST 1048576: true; the input reads as it did. -/
def fuzzTellsUptoRow : OpenClaim := { program := "ytbjgopehomnpgaadoor", sum := "cdce12d44412bd1083b8e2c52f8464d1caf212dbee23365f0125b3a7e4f97e2e", func := "fusee/fuseelaw25.FuzzTells", spec := "fuzzTells", inPlace := ["internal/reflectlite.ValueOf", "(internal/reflectlite.Value).Type", "(internal/reflectlite.Value).IsNil", "internal/reflectlite.TypeOf", "(internal/reflectlite.Value).Elem", "(internal/reflectlite.Value).Set"], unfollowed := true, recurses := true, named := ["errors.errorType"], apart := false, laid := [("errors.errorType", laid_errors_errorType)], narrowed := true }
def FuzzTellsUptoSaid : Prop := fuzzTellsUptoRow.holds Tryd.pinned (OpenSpec.upto fuzzTellsSpec)

/-- 'fuseelaw25.FuzzHolds', WHERE WHAT IT READS IS OF BULK AT MOST 1048576: true; the input reads as it did. -/
def fuzzHoldsUptoRow : OpenClaim := { program := "ytbjgopehomnpgaadoor", sum := "cdce12d44412bd1083b8e2c52f8464d1caf212dbee23365f0125b3a7e4f97e2e", func := "fusee/fuseelaw25.FuzzHolds", spec := "fuzzHolds", inPlace := ["internal/reflectlite.ValueOf", "(internal/reflectlite.Value).Type", "(internal/reflectlite.Value).IsNil", "internal/reflectlite.TypeOf", "(internal/reflectlite.Value).Elem", "(internal/reflectlite.Value).Set"], unfollowed := true, recurses := true, named := ["errors.errorType"], apart := false, laid := [("errors.errorType", laid_errors_errorType)], narrowed := true }
def FuzzHoldsUptoSaid : Prop := fuzzHoldsUptoRow.holds Tryd.pinned (OpenSpec.upto fuzzHoldsSpec)

/-- 'fuseelaw28.PolicyForms', WHERE WHAT IT READS IS OF BULK AT MOST 1048576: true; the input reads as it did. -/
def policyFormsUptoRow : OpenClaim := { program := "ytbjgopehomnpgaadoor", sum := "cdce12d44412bd1083b8e2c52f8464d1caf212dbee23365f0125b3a7e4f97e2e", func := "fusee/fuseelaw28.PolicyForms", spec := "policyForms", inPlace := ["internal/reflectlite.ValueOf", "(internal/reflectlite.Value).Type", "(internal/reflectlite.Value).IsNil", "internal/reflectlite.TypeOf", "(internal/reflectlite.Value).Elem", "(internal/reflectlite.Value).Set"], unfollowed := true, recurses := true, named := ["errors.errorType"], apart := false, laid := [("errors.errorType", laid_errors_errorType)], narrowed := true }
def PolicyFormsUptoSaid : Prop := policyFormsUptoRow.holds Tryd.pinned (OpenSpec.upto policyFormsSpec)

/-- 'fuseelaw28.PolicyBack', WHERE WHAT IT READS IS OF BULK AT MOST 1048576: true; the input reads as it did. -/
def policyBackUptoRow : OpenClaim := { program := "ytbjgopehomnpgaadoor", sum := "cdce12d44412bd1083b8e2c52f8464d1caf212dbee23365f0125b3a7e4f97e2e", func := "fusee/fuseelaw28.PolicyBack", spec := "policyBack", inPlace := ["internal/reflectlite.ValueOf", "(internal/reflectlite.Value).Type", "(internal/reflectlite.Value).IsNil", "internal/reflectlite.TypeOf", "(internal/reflectlite.Value).Elem", "(internal/reflectlite.Value).Set"], unfollowed := true, recurses := true, named := ["errors.errorType"], apart := false, laid := [("errors.errorType", laid_errors_errorType)], narrowed := true }
def PolicyBackUptoSaid : Prop := policyBackUptoRow.holds Tryd.pinned (OpenSpec.upto policyBackSpec)

/-- 'fuseelaw32.NetSteps', WHERE WHAT IT READS IS OF BULK AT MOST 1048576: true; the input reads as it did. -/
def netStepsUptoRow : OpenClaim := { program := "ytbjgopehomnpgaadoor", sum := "cdce12d44412bd1083b8e2c52f8464d1caf212dbee23365f0125b3a7e4f97e2e", func := "fusee/fuseelaw32.NetSteps", spec := "netSteps", inPlace := ["internal/reflectlite.ValueOf", "(internal/reflectlite.Value).Type", "(internal/reflectlite.Value).IsNil", "internal/reflectlite.TypeOf", "(internal/reflectlite.Value).Elem", "(internal/reflectlite.Value).Set"], unfollowed := true, recurses := true, named := ["errors.errorType"], apart := false, laid := [("errors.errorType", laid_errors_errorType)], narrowed := true }
def NetStepsUptoSaid : Prop := netStepsUptoRow.holds Tryd.pinned (OpenSpec.upto netStepsSpec)

/-- 'fuseelaw32.NetCounts', WHERE WHAT IT READS IS OF BULK AT MOST 1048576: true; the input reads as it did. -/
def netCountsUptoRow : OpenClaim := { program := "ytbjgopehomnpgaadoor", sum := "cdce12d44412bd1083b8e2c52f8464d1caf212dbee23365f0125b3a7e4f97e2e", func := "fusee/fuseelaw32.NetCounts", spec := "netCounts", inPlace := ["internal/reflectlite.ValueOf", "(internal/reflectlite.Value).Type", "(internal/reflectlite.Value).IsNil", "internal/reflectlite.TypeOf", "(internal/reflectlite.Value).Elem", "(internal/reflectlite.Value).Set"], unfollowed := true, recurses := true, named := ["errors.errorType"], apart := false, laid := [("errors.errorType", laid_errors_errorType)], narrowed := true }
def NetCountsUptoSaid : Prop := netCountsUptoRow.holds Tryd.pinned (OpenSpec.upto netCountsSpec)

end Rows
end Go.Proofs.YtbjgopehomnpgaaDoor
