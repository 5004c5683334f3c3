/-
  NARROWER THAN 'FOR EVERY INPUT', by the rows' own cells (each row's printed sentence says how): WideSums: laid · WideParts: laid · BlobBack: laid · ZoneForms: laid · PublishSteps: laid · AheadTells: laid · FuzzTells: laid · FuzzHolds: laid · PolicyForms: laid · PolicyBack: laid · NetCounts: laid · NtpForms: laid · NtpAsks: laid.
  DERIVED. THE GIVEN ROWS OF THIS SEAT. 13 by the template 'for every input the law returns true; each argument reads behind the call as it read before'; 0 by the template 'total and deterministic' (their statements: YtbgmbbkmadkhgaaDoorTotals.lean).
  GIVEN WITH THE SEED: the statements are not yours to turn. If you find one false, say at which input.
  Laid BY PROGRAM, IN A SANDBOX (cutbox-rows.mjs): the forced cells as the released guide's own fill.sh prints them over the translation e94da10f4e330e5c… (all of the seat's roots in one cut). By AI agents, Wed Nov 11 2026. No macro, syntax, notation, axiom, sorry.
-/
import Derived.Test.YtbgmbbkmadkhgaaDoorChecked
import GoSem.Claim
import GoSem.ClaimJoined
import GoSem.ClaimMapViews
import Derived.JoinedTies
import Derived.KernelRfl
namespace Go.Proofs.YtbgmbbkmadkhgaaDoor
/- THE CELL 'sum', in the pinned program and in every row, IS THE sha256 OF THE DUMP (.gsa) THAT YtbgmbbkmadkhgaaDoorProg.lean LOADS. Nothing in Lean hashes anything: it is a label: what it is worth is what the hold of that sum in a sandbox is worth. -/
noncomputable def Tryd.pinned : Pinned := { name := "ytbgmbbkmadkhgaadoor", sum := "e94da10f4e330e5c2852ced647b8d3089e2f7a23d2ea0fb142019ec7443b9870", checked := Tryd.checked }
namespace Rows
def none {H : Type} : Left H := { results := [], args := [] }

/- WHAT THE LISTED PACKAGE-LEVEL VARIABLES READ AS WHEN THE CALL BEGINS. Each datum BY PROGRAM (the guide's laid-datum.mjs) off the statement by which the dump's own 'gosem.cut.vars' lays the variable. In a bare row this is a premise. The card (YtbgmbbkmadkhgaaDoorCards.lean) ties it to the program's text. -/
def laid_errors_errorType {H : Type} : DataW H := .iface "internal/reflectlite.rtype" (.agg [.ptr (.lit (.string [101, 114, 114, 111, 114]))])

/-- 'fuseelaw02.WideSums': WHATEVER THE INPUT: true; the input reads as it did. -/
def wideSumsSpec : ChangeSpec := { name := "wideSums", fn := fun _ => fun
  | [d1, d2, d3] => { results := [.lit (.bool true)], args := [d1, d2, d3] }
  | _ => none }
def wideSumsRow : OpenClaim := { program := "ytbgmbbkmadkhgaadoor", sum := "e94da10f4e330e5c2852ced647b8d3089e2f7a23d2ea0fb142019ec7443b9870", func := "fusee/fuseelaw02.WideSums", spec := "wideSums", inPlace := ["math/bits.Add64", "internal/reflectlite.ValueOf", "(internal/reflectlite.Value).Type", "(internal/reflectlite.Value).IsNil", "internal/reflectlite.TypeOf", "(internal/reflectlite.Value).Elem", "(internal/reflectlite.Value).Set"], unfollowed := true, recurses := true, named := ["errors.errorType", "math/bits.divideError", "math/bits.overflowError"], apart := false, laid := [("errors.errorType", laid_errors_errorType)] }
def WideSumsSaid : Prop := wideSumsRow.holds Tryd.pinned (OpenSpec.ofChange wideSumsSpec)

/-- ITS FALSE NEIGHBOUR: 'it returns false'. Refute it at one input. -/
def wideSumsWrong : ChangeSpec := { name := "wideSums", fn := fun _ => fun
  | [d1, d2, d3] => { results := [.lit (.bool false)], args := [d1, d2, d3] }
  | _ => none }
def WideSumsWrongFalsely : Prop := wideSumsRow.holds Tryd.pinned (OpenSpec.ofChange wideSumsWrong)

/-- 'fuseelaw02.WideParts': WHATEVER THE INPUT: true; the input reads as it did. -/
def widePartsSpec : ChangeSpec := { name := "wideParts", fn := fun _ => fun
  | [d1, d2, d3] => { results := [.lit (.bool true)], args := [d1, d2, d3] }
  | _ => none }
def widePartsRow : OpenClaim := { program := "ytbgmbbkmadkhgaadoor", sum := "e94da10f4e330e5c2852ced647b8d3089e2f7a23d2ea0fb142019ec7443b9870", func := "fusee/fuseelaw02.WideParts", spec := "wideParts", inPlace := ["internal/reflectlite.ValueOf", "(internal/reflectlite.Value).Type", "(internal/reflectlite.Value).IsNil", "internal/reflectlite.TypeOf", "(internal/reflectlite.Value).Elem", "(internal/reflectlite.Value).Set"], unfollowed := true, recurses := true, named := ["math/bits.divideError", "math/bits.overflowError", "errors.errorType"], apart := false, laid := [("errors.errorType", laid_errors_errorType)] }
def WidePartsSaid : Prop := widePartsRow.holds Tryd.pinned (OpenSpec.ofChange widePartsSpec)

/-- ITS FALSE NEIGHBOUR: 'it returns false'. Refute it at one input. -/
def widePartsWrong : ChangeSpec := { name := "wideParts", fn := fun _ => fun
  | [d1, d2, d3] => { results := [.lit (.bool false)], args := [d1, d2, d3] }
  | _ => none }
def WidePartsWrongFalsely : Prop := widePartsRow.holds Tryd.pinned (OpenSpec.ofChange widePartsWrong)

/-- 'fuseelaw06.BlobBack': WHATEVER THE INPUT: true; the input reads as it did. -/
def blobBackSpec : ChangeSpec := { name := "blobBack", fn := fun _ => fun
  | [d1, d2, d3] => { results := [.lit (.bool true)], args := [d1, d2, d3] }
  | _ => none }
def blobBackRow : OpenClaim := { program := "ytbgmbbkmadkhgaadoor", sum := "e94da10f4e330e5c2852ced647b8d3089e2f7a23d2ea0fb142019ec7443b9870", func := "fusee/fuseelaw06.BlobBack", spec := "blobBack", inPlace := ["internal/reflectlite.ValueOf", "(internal/reflectlite.Value).Type", "(internal/reflectlite.Value).IsNil", "internal/reflectlite.TypeOf", "(internal/reflectlite.Value).Elem", "(internal/reflectlite.Value).Set"], unfollowed := true, recurses := true, named := ["errors.errorType"], apart := false, laid := [("errors.errorType", laid_errors_errorType)] }
def BlobBackSaid : Prop := blobBackRow.holds Tryd.pinned (OpenSpec.ofChange blobBackSpec)

/-- ITS FALSE NEIGHBOUR: 'it returns false'. Refute it at one input. -/
def blobBackWrong : ChangeSpec := { name := "blobBack", fn := fun _ => fun
  | [d1, d2, d3] => { results := [.lit (.bool false)], args := [d1, d2, d3] }
  | _ => none }
def BlobBackWrongFalsely : Prop := blobBackRow.holds Tryd.pinned (OpenSpec.ofChange blobBackWrong)

/-- 'fuseelaw10.ZoneForms': WHATEVER THE INPUT: true; the input reads as it did. -/
def zoneFormsSpec : ChangeSpec := { name := "zoneForms", fn := fun _ => fun
  | [d1, d2] => { results := [.lit (.bool true)], args := [d1, d2] }
  | _ => none }
def zoneFormsRow : OpenClaim := { program := "ytbgmbbkmadkhgaadoor", sum := "e94da10f4e330e5c2852ced647b8d3089e2f7a23d2ea0fb142019ec7443b9870", func := "fusee/fuseelaw10.ZoneForms", spec := "zoneForms", inPlace := ["internal/reflectlite.ValueOf", "(internal/reflectlite.Value).Type", "(internal/reflectlite.Value).IsNil", "internal/reflectlite.TypeOf", "(internal/reflectlite.Value).Elem", "(internal/reflectlite.Value).Set"], unfollowed := true, recurses := true, named := ["errors.errorType"], apart := false, laid := [("errors.errorType", laid_errors_errorType)] }
def ZoneFormsSaid : Prop := zoneFormsRow.holds Tryd.pinned (OpenSpec.ofChange zoneFormsSpec)

/-- ITS FALSE NEIGHBOUR: 'it returns false'. Refute it at one input. -/
def zoneFormsWrong : ChangeSpec := { name := "zoneForms", fn := fun _ => fun
  | [d1, d2] => { results := [.lit (.bool false)], args := [d1, d2] }
  | _ => none }
def ZoneFormsWrongFalsely : Prop := zoneFormsRow.holds Tryd.pinned (OpenSpec.ofChange zoneFormsWrong)

/-- 'fuseelaw20.PublishSteps': WHATEVER THE INPUT: true; the input reads as it did. -/
def publishStepsSpec : ChangeSpec := { name := "publishSteps", fn := fun _ => fun
  | [d1, d2, d3] => { results := [.lit (.bool true)], args := [d1, d2, d3] }
  | _ => none }
def publishStepsRow : OpenClaim := { program := "ytbgmbbkmadkhgaadoor", sum := "e94da10f4e330e5c2852ced647b8d3089e2f7a23d2ea0fb142019ec7443b9870", func := "fusee/fuseelaw20.PublishSteps", spec := "publishSteps", inPlace := ["internal/reflectlite.ValueOf", "(internal/reflectlite.Value).Type", "(internal/reflectlite.Value).IsNil", "internal/reflectlite.TypeOf", "(internal/reflectlite.Value).Elem", "(internal/reflectlite.Value).Set"], unfollowed := true, recurses := true, named := ["errors.errorType"], apart := false, laid := [("errors.errorType", laid_errors_errorType)] }
def PublishStepsSaid : Prop := publishStepsRow.holds Tryd.pinned (OpenSpec.ofChange publishStepsSpec)

/-- ITS FALSE NEIGHBOUR: 'it returns false'. Refute it at one input. -/
def publishStepsWrong : ChangeSpec := { name := "publishSteps", fn := fun _ => fun
  | [d1, d2, d3] => { results := [.lit (.bool false)], args := [d1, d2, d3] }
  | _ => none }
def PublishStepsWrongFalsely : Prop := publishStepsRow.holds Tryd.pinned (OpenSpec.ofChange publishStepsWrong)

/-- 'fuseelaw22.AheadTells': WHATEVER THE INPUT: true; the input reads as it did. -/
def aheadTellsSpec : ChangeSpec := { name := "aheadTells", fn := fun _ => fun
  | [d1, d2, d3] => { results := [.lit (.bool true)], args := [d1, d2, d3] }
  | _ => none }
def aheadTellsRow : OpenClaim := { program := "ytbgmbbkmadkhgaadoor", sum := "e94da10f4e330e5c2852ced647b8d3089e2f7a23d2ea0fb142019ec7443b9870", func := "fusee/fuseelaw22.AheadTells", spec := "aheadTells", inPlace := ["internal/reflectlite.ValueOf", "(internal/reflectlite.Value).Type", "(internal/reflectlite.Value).IsNil", "internal/reflectlite.TypeOf", "(internal/reflectlite.Value).Elem", "(internal/reflectlite.Value).Set"], unfollowed := true, recurses := true, named := ["math/bits.divideError", "math/bits.overflowError", "errors.errorType"], apart := false, laid := [("errors.errorType", laid_errors_errorType)] }
def AheadTellsSaid : Prop := aheadTellsRow.holds Tryd.pinned (OpenSpec.ofChange aheadTellsSpec)

/-- ITS FALSE NEIGHBOUR: 'it returns false'. Refute it at one input. -/
def aheadTellsWrong : ChangeSpec := { name := "aheadTells", fn := fun _ => fun
  | [d1, d2, d3] => { results := [.lit (.bool false)], args := [d1, d2, d3] }
  | _ => none }
def AheadTellsWrongFalsely : Prop := aheadTellsRow.holds Tryd.pinned (OpenSpec.ofChange aheadTellsWrong)

/-- 'fuseelaw25.FuzzTells': WHATEVER THE INPUT: true; the input reads as it did. -/
def fuzzTellsSpec : ChangeSpec := { name := "fuzzTells", fn := fun _ => fun
  | [d1, d2, d3] => { results := [.lit (.bool true)], args := [d1, d2, d3] }
  | _ => none }
def fuzzTellsRow : OpenClaim := { program := "ytbgmbbkmadkhgaadoor", sum := "e94da10f4e330e5c2852ced647b8d3089e2f7a23d2ea0fb142019ec7443b9870", func := "fusee/fuseelaw25.FuzzTells", spec := "fuzzTells", inPlace := ["internal/reflectlite.ValueOf", "(internal/reflectlite.Value).Type", "(internal/reflectlite.Value).IsNil", "internal/reflectlite.TypeOf", "(internal/reflectlite.Value).Elem", "(internal/reflectlite.Value).Set"], unfollowed := true, recurses := true, named := ["errors.errorType"], apart := false, laid := [("errors.errorType", laid_errors_errorType)] }
def FuzzTellsSaid : Prop := fuzzTellsRow.holds Tryd.pinned (OpenSpec.ofChange fuzzTellsSpec)

/-- ITS FALSE NEIGHBOUR: 'it returns false'. Refute it at one input. -/
def fuzzTellsWrong : ChangeSpec := { name := "fuzzTells", fn := fun _ => fun
  | [d1, d2, d3] => { results := [.lit (.bool false)], args := [d1, d2, d3] }
  | _ => none }
def FuzzTellsWrongFalsely : Prop := fuzzTellsRow.holds Tryd.pinned (OpenSpec.ofChange fuzzTellsWrong)

/-- 'fuseelaw25.FuzzHolds': WHATEVER THE INPUT: true; the input reads as it did. -/
def fuzzHoldsSpec : ChangeSpec := { name := "fuzzHolds", fn := fun _ => fun
  | [d1, d2, d3] => { results := [.lit (.bool true)], args := [d1, d2, d3] }
  | _ => none }
def fuzzHoldsRow : OpenClaim := { program := "ytbgmbbkmadkhgaadoor", sum := "e94da10f4e330e5c2852ced647b8d3089e2f7a23d2ea0fb142019ec7443b9870", func := "fusee/fuseelaw25.FuzzHolds", spec := "fuzzHolds", inPlace := ["internal/reflectlite.ValueOf", "(internal/reflectlite.Value).Type", "(internal/reflectlite.Value).IsNil", "internal/reflectlite.TypeOf", "(internal/reflectlite.Value).Elem", "(internal/reflectlite.Value).Set"], unfollowed := true, recurses := true, named := ["errors.errorType"], apart := false, laid := [("errors.errorType", laid_errors_errorType)] }
def FuzzHoldsSaid : Prop := fuzzHoldsRow.holds Tryd.pinned (OpenSpec.ofChange fuzzHoldsSpec)

/-- ITS FALSE NEIGHBOUR: 'it returns false'. Refute it at one input. -/
def fuzzHoldsWrong : ChangeSpec := { name := "fuzzHolds", fn := fun _ => fun
  | [d1, d2, d3] => { results := [.lit (.bool false)], args := [d1, d2, d3] }
  | _ => none }
def FuzzHoldsWrongFalsely : Prop := fuzzHoldsRow.holds Tryd.pinned (OpenSpec.ofChange fuzzHoldsWrong)

/-- 'fuseelaw28.PolicyForms': WHATEVER THE INPUT: true; the input reads as it did. -/
def policyFormsSpec : ChangeSpec := { name := "policyForms", fn := fun _ => fun
  | [d1, d2, d3] => { results := [.lit (.bool true)], args := [d1, d2, d3] }
  | _ => none }
def policyFormsRow : OpenClaim := { program := "ytbgmbbkmadkhgaadoor", sum := "e94da10f4e330e5c2852ced647b8d3089e2f7a23d2ea0fb142019ec7443b9870", func := "fusee/fuseelaw28.PolicyForms", spec := "policyForms", inPlace := ["internal/reflectlite.ValueOf", "(internal/reflectlite.Value).Type", "(internal/reflectlite.Value).IsNil", "internal/reflectlite.TypeOf", "(internal/reflectlite.Value).Elem", "(internal/reflectlite.Value).Set"], unfollowed := true, recurses := true, named := ["errors.errorType"], apart := false, laid := [("errors.errorType", laid_errors_errorType)] }
def PolicyFormsSaid : Prop := policyFormsRow.holds Tryd.pinned (OpenSpec.ofChange policyFormsSpec)

/-- ITS FALSE NEIGHBOUR: 'it returns false'. Refute it at one input. -/
def policyFormsWrong : ChangeSpec := { name := "policyForms", fn := fun _ => fun
  | [d1, d2, d3] => { results := [.lit (.bool false)], args := [d1, d2, d3] }
  | _ => none }
def PolicyFormsWrongFalsely : Prop := policyFormsRow.holds Tryd.pinned (OpenSpec.ofChange policyFormsWrong)

/-- 'fuseelaw28.PolicyBack': WHATEVER THE INPUT: true; the input reads as it did. -/
def policyBackSpec : ChangeSpec := { name := "policyBack", fn := fun _ => fun
  | [d1, d2] => { results := [.lit (.bool true)], args := [d1, d2] }
  | _ => none }
def policyBackRow : OpenClaim := { program := "ytbgmbbkmadkhgaadoor", sum := "e94da10f4e330e5c2852ced647b8d3089e2f7a23d2ea0fb142019ec7443b9870", func := "fusee/fuseelaw28.PolicyBack", spec := "policyBack", inPlace := ["internal/reflectlite.ValueOf", "(internal/reflectlite.Value).Type", "(internal/reflectlite.Value).IsNil", "internal/reflectlite.TypeOf", "(internal/reflectlite.Value).Elem", "(internal/reflectlite.Value).Set"], unfollowed := true, recurses := true, named := ["errors.errorType"], apart := false, laid := [("errors.errorType", laid_errors_errorType)] }
def PolicyBackSaid : Prop := policyBackRow.holds Tryd.pinned (OpenSpec.ofChange policyBackSpec)

/-- ITS FALSE NEIGHBOUR: 'it returns false'. Refute it at one input. -/
def policyBackWrong : ChangeSpec := { name := "policyBack", fn := fun _ => fun
  | [d1, d2] => { results := [.lit (.bool false)], args := [d1, d2] }
  | _ => none }
def PolicyBackWrongFalsely : Prop := policyBackRow.holds Tryd.pinned (OpenSpec.ofChange policyBackWrong)

/-- 'fuseelaw32.NetCounts': WHATEVER THE INPUT: true; the input reads as it did. -/
def netCountsSpec : ChangeSpec := { name := "netCounts", fn := fun _ => fun
  | [d] => { results := [.lit (.bool true)], args := [d] }
  | _ => none }
def netCountsRow : OpenClaim := { program := "ytbgmbbkmadkhgaadoor", sum := "e94da10f4e330e5c2852ced647b8d3089e2f7a23d2ea0fb142019ec7443b9870", func := "fusee/fuseelaw32.NetCounts", spec := "netCounts", inPlace := ["internal/reflectlite.ValueOf", "(internal/reflectlite.Value).Type", "(internal/reflectlite.Value).IsNil", "internal/reflectlite.TypeOf", "(internal/reflectlite.Value).Elem", "(internal/reflectlite.Value).Set"], unfollowed := true, recurses := true, named := ["errors.errorType"], apart := false, laid := [("errors.errorType", laid_errors_errorType)] }
def NetCountsSaid : Prop := netCountsRow.holds Tryd.pinned (OpenSpec.ofChange netCountsSpec)

/-- ITS FALSE NEIGHBOUR: 'it returns false'. Refute it at one input. -/
def netCountsWrong : ChangeSpec := { name := "netCounts", fn := fun _ => fun
  | [d] => { results := [.lit (.bool false)], args := [d] }
  | _ => none }
def NetCountsWrongFalsely : Prop := netCountsRow.holds Tryd.pinned (OpenSpec.ofChange netCountsWrong)

/-- 'fuseelaw41.NtpForms': WHATEVER THE INPUT: true; the input reads as it did. -/
def ntpFormsSpec : ChangeSpec := { name := "ntpForms", fn := fun _ => fun
  | [d1, d2, d3] => { results := [.lit (.bool true)], args := [d1, d2, d3] }
  | _ => none }
def ntpFormsRow : OpenClaim := { program := "ytbgmbbkmadkhgaadoor", sum := "e94da10f4e330e5c2852ced647b8d3089e2f7a23d2ea0fb142019ec7443b9870", func := "fusee/fuseelaw41.NtpForms", spec := "ntpForms", inPlace := ["internal/reflectlite.ValueOf", "(internal/reflectlite.Value).Type", "(internal/reflectlite.Value).IsNil", "internal/reflectlite.TypeOf", "(internal/reflectlite.Value).Elem", "(internal/reflectlite.Value).Set"], unfollowed := true, recurses := true, named := ["math/bits.divideError", "math/bits.overflowError", "errors.errorType"], apart := false, laid := [("errors.errorType", laid_errors_errorType)] }
def NtpFormsSaid : Prop := ntpFormsRow.holds Tryd.pinned (OpenSpec.ofChange ntpFormsSpec)

/-- ITS FALSE NEIGHBOUR: 'it returns false'. Refute it at one input. -/
def ntpFormsWrong : ChangeSpec := { name := "ntpForms", fn := fun _ => fun
  | [d1, d2, d3] => { results := [.lit (.bool false)], args := [d1, d2, d3] }
  | _ => none }
def NtpFormsWrongFalsely : Prop := ntpFormsRow.holds Tryd.pinned (OpenSpec.ofChange ntpFormsWrong)

/-- 'fuseelaw41.NtpAsks': WHATEVER THE INPUT: true; the input reads as it did. -/
def ntpAsksSpec : ChangeSpec := { name := "ntpAsks", fn := fun _ => fun
  | [d1, d2, d3] => { results := [.lit (.bool true)], args := [d1, d2, d3] }
  | _ => none }
def ntpAsksRow : OpenClaim := { program := "ytbgmbbkmadkhgaadoor", sum := "e94da10f4e330e5c2852ced647b8d3089e2f7a23d2ea0fb142019ec7443b9870", func := "fusee/fuseelaw41.NtpAsks", spec := "ntpAsks", inPlace := ["internal/reflectlite.ValueOf", "(internal/reflectlite.Value).Type", "(internal/reflectlite.Value).IsNil", "internal/reflectlite.TypeOf", "(internal/reflectlite.Value).Elem", "(internal/reflectlite.Value).Set"], unfollowed := true, recurses := true, named := ["math/bits.divideError", "math/bits.overflowError", "errors.errorType"], apart := false, laid := [("errors.errorType", laid_errors_errorType)] }
def NtpAsksSaid : Prop := ntpAsksRow.holds Tryd.pinned (OpenSpec.ofChange ntpAsksSpec)

/-- ITS FALSE NEIGHBOUR: 'it returns false'. Refute it at one input. -/
def ntpAsksWrong : ChangeSpec := { name := "ntpAsks", fn := fun _ => fun
  | [d1, d2, d3] => { results := [.lit (.bool false)], args := [d1, d2, d3] }
  | _ => none }
def NtpAsksWrongFalsely : Prop := ntpAsksRow.holds Tryd.pinned (OpenSpec.ofChange ntpAsksWrong)

/- THE SECOND FORM. 'bulk': how many values and letters a reading holds, each counted each time it is reached (what is shared counts as often as it is met; a slice's spare places count too). A statement '..UptoSaid' is the law's where the arguments, and the package variables that the reading takes, are together of bulk at most 1048576: NARROWER than '..Said'. Prove '..Said' where nothing that the law and all that it calls make is longer than what came in: it says more and counts as full. Else prove '..UptoSaid'. A law counts once. -/
mutual
def uptoBulk {H : Type} : DataW H → Nat
  | .lit (.string bytes) => bytes.length + 1
  | .lit _ => 1
  | .nil => 1
  | .ptr d => uptoBulk d + 1
  | .slice elems spare => uptoBulkAll elems + uptoBulkAll spare + 1
  | .agg parts => uptoBulkAll parts + 1
  | .iface _ d => uptoBulk d + 1
  | .map entries => uptoBulkEntries entries + 1
  | .held _ => 1
def uptoBulkAll {H : Type} : List (DataW H) → Nat
  | [] => 0
  | d :: r => uptoBulk d + uptoBulkAll r
def uptoBulkEntries {H : Type} : List (Lit × DataW H) → Nat
  | [] => 0
  | x :: r => uptoBulkEntry x + uptoBulkEntries r
def uptoBulkEntry {H : Type} : Lit × DataW H → Nat
  | (.string bytes, d) => bytes.length + uptoBulk d + 1
  | (_, d) => uptoBulk d + 1
 end
def uptoSmall : (H : Type) → List (DataW H) → Bool := fun _ ds => decide (uptoBulkAll ds ≤ 1048576)
def OpenSpec.upto (s : _root_.Go.ChangeSpec) : _root_.Go.OpenSpec := { _root_.Go.OpenSpec.ofChange s with cond := some uptoSmall }

/-- 'fuseelaw02.WideSums', WHERE WHAT IT READS IS OF BULK AT MOST 1048576: true; the input reads as it did. -/
def wideSumsUptoRow : OpenClaim := { program := "ytbgmbbkmadkhgaadoor", sum := "e94da10f4e330e5c2852ced647b8d3089e2f7a23d2ea0fb142019ec7443b9870", func := "fusee/fuseelaw02.WideSums", spec := "wideSums", inPlace := ["math/bits.Add64", "internal/reflectlite.ValueOf", "(internal/reflectlite.Value).Type", "(internal/reflectlite.Value).IsNil", "internal/reflectlite.TypeOf", "(internal/reflectlite.Value).Elem", "(internal/reflectlite.Value).Set"], unfollowed := true, recurses := true, named := ["errors.errorType", "math/bits.divideError", "math/bits.overflowError"], apart := false, laid := [("errors.errorType", laid_errors_errorType)], narrowed := true }
def WideSumsUptoSaid : Prop := wideSumsUptoRow.holds Tryd.pinned (OpenSpec.upto wideSumsSpec)

/-- 'fuseelaw02.WideParts', WHERE WHAT IT READS IS OF BULK AT MOST 1048576: true; the input reads as it did. -/
def widePartsUptoRow : OpenClaim := { program := "ytbgmbbkmadkhgaadoor", sum := "e94da10f4e330e5c2852ced647b8d3089e2f7a23d2ea0fb142019ec7443b9870", func := "fusee/fuseelaw02.WideParts", spec := "wideParts", inPlace := ["internal/reflectlite.ValueOf", "(internal/reflectlite.Value).Type", "(internal/reflectlite.Value).IsNil", "internal/reflectlite.TypeOf", "(internal/reflectlite.Value).Elem", "(internal/reflectlite.Value).Set"], unfollowed := true, recurses := true, named := ["math/bits.divideError", "math/bits.overflowError", "errors.errorType"], apart := false, laid := [("errors.errorType", laid_errors_errorType)], narrowed := true }
def WidePartsUptoSaid : Prop := widePartsUptoRow.holds Tryd.pinned (OpenSpec.upto widePartsSpec)

/-- 'fuseelaw06.BlobBack', WHERE WHAT IT READS IS OF BULK AT MOST 1048576: true; the input reads as it did. -/
def blobBackUptoRow : OpenClaim := { program := "ytbgmbbkmadkhgaadoor", sum := "e94da10f4e330e5c2852ced647b8d3089e2f7a23d2ea0fb142019ec7443b9870", func := "fusee/fuseelaw06.BlobBack", spec := "blobBack", inPlace := ["internal/reflectlite.ValueOf", "(internal/reflectlite.Value).Type", "(internal/reflectlite.Value).IsNil", "internal/reflectlite.TypeOf", "(internal/reflectlite.Value).Elem", "(internal/reflectlite.Value).Set"], unfollowed := true, recurses := true, named := ["errors.errorType"], apart := false, laid := [("errors.errorType", laid_errors_errorType)], narrowed := true }
def BlobBackUptoSaid : Prop := blobBackUptoRow.holds Tryd.pinned (OpenSpec.upto blobBackSpec)

/-- 'fuseelaw10.ZoneForms', WHERE WHAT IT READS IS OF BULK AT MOST 1048576: true; the input reads as it did. -/
def zoneFormsUptoRow : OpenClaim := { program := "ytbgmbbkmadkhgaadoor", sum := "e94da10f4e330e5c2852ced647b8d3089e2f7a23d2ea0fb142019ec7443b9870", func := "fusee/fuseelaw10.ZoneForms", spec := "zoneForms", inPlace := ["internal/reflectlite.ValueOf", "(internal/reflectlite.Value).Type", "(internal/reflectlite.Value).IsNil", "internal/reflectlite.TypeOf", "(internal/reflectlite.Value).Elem", "(internal/reflectlite.Value).Set"], unfollowed := true, recurses := true, named := ["errors.errorType"], apart := false, laid := [("errors.errorType", laid_errors_errorType)], narrowed := true }
def ZoneFormsUptoSaid : Prop := zoneFormsUptoRow.holds Tryd.pinned (OpenSpec.upto zoneFormsSpec)

/-- 'fuseelaw20.PublishSteps', WHERE WHAT IT READS IS OF BULK AT MOST 1048576: true; the input reads as it did. -/
def publishStepsUptoRow : OpenClaim := { program := "ytbgmbbkmadkhgaadoor", sum := "e94da10f4e330e5c2852ced647b8d3089e2f7a23d2ea0fb142019ec7443b9870", func := "fusee/fuseelaw20.PublishSteps", spec := "publishSteps", inPlace := ["internal/reflectlite.ValueOf", "(internal/reflectlite.Value).Type", "(internal/reflectlite.Value).IsNil", "internal/reflectlite.TypeOf", "(internal/reflectlite.Value).Elem", "(internal/reflectlite.Value).Set"], unfollowed := true, recurses := true, named := ["errors.errorType"], apart := false, laid := [("errors.errorType", laid_errors_errorType)], narrowed := true }
def PublishStepsUptoSaid : Prop := publishStepsUptoRow.holds Tryd.pinned (OpenSpec.upto publishStepsSpec)

/-- 'fuseelaw22.AheadTells', WHERE WHAT IT READS IS OF BULK AT MOST 1048576: true; the input reads as it did. -/
def aheadTellsUptoRow : OpenClaim := { program := "ytbgmbbkmadkhgaadoor", sum := "e94da10f4e330e5c2852ced647b8d3089e2f7a23d2ea0fb142019ec7443b9870", func := "fusee/fuseelaw22.AheadTells", spec := "aheadTells", inPlace := ["internal/reflectlite.ValueOf", "(internal/reflectlite.Value).Type", "(internal/reflectlite.Value).IsNil", "internal/reflectlite.TypeOf", "(internal/reflectlite.Value).Elem", "(internal/reflectlite.Value).Set"], unfollowed := true, recurses := true, named := ["math/bits.divideError", "math/bits.overflowError", "errors.errorType"], apart := false, laid := [("errors.errorType", laid_errors_errorType)], narrowed := true }
def AheadTellsUptoSaid : Prop := aheadTellsUptoRow.holds Tryd.pinned (OpenSpec.upto aheadTellsSpec)

/-- 'fuseelaw25.FuzzTells', WHERE WHAT IT READS IS OF BULK AT MOST 1048576: true; the input reads as it did. -/
def fuzzTellsUptoRow : OpenClaim := { program := "ytbgmbbkmadkhgaadoor", sum := "e94da10f4e330e5c2852ced647b8d3089e2f7a23d2ea0fb142019ec7443b9870", func := "fusee/fuseelaw25.FuzzTells", spec := "fuzzTells", inPlace := ["internal/reflectlite.ValueOf", "(internal/reflectlite.Value).Type", "(internal/reflectlite.Value).IsNil", "internal/reflectlite.TypeOf", "(internal/reflectlite.Value).Elem", "(internal/reflectlite.Value).Set"], unfollowed := true, recurses := true, named := ["errors.errorType"], apart := false, laid := [("errors.errorType", laid_errors_errorType)], narrowed := true }
def FuzzTellsUptoSaid : Prop := fuzzTellsUptoRow.holds Tryd.pinned (OpenSpec.upto fuzzTellsSpec)

/-- 'fuseelaw25.FuzzHolds', WHERE WHAT IT READS IS OF BULK AT MOST 1048576: true; the input reads as it did. -/
def fuzzHoldsUptoRow : OpenClaim := { program := "ytbgmbbkmadkhgaadoor", sum := "e94da10f4e330e5c2852ced647b8d3089e2f7a23d2ea0fb142019ec7443b9870", func := "fusee/fuseelaw25.FuzzHolds", spec := "fuzzHolds", inPlace := ["internal/reflectlite.ValueOf", "(internal/reflectlite.Value).Type", "(internal/reflectlite.Value).IsNil", "internal/reflectlite.TypeOf", "(internal/reflectlite.Value).Elem", "(internal/reflectlite.Value).Set"], unfollowed := true, recurses := true, named := ["errors.errorType"], apart := false, laid := [("errors.errorType", laid_errors_errorType)], narrowed := true }
def FuzzHoldsUptoSaid : Prop := fuzzHoldsUptoRow.holds Tryd.pinned (OpenSpec.upto fuzzHoldsSpec)

/-- 'fuseelaw28.PolicyForms', WHERE WHAT IT READS IS OF BULK AT MOST 1048576: true; the input reads as it did. -/
def policyFormsUptoRow : OpenClaim := { program := "ytbgmbbkmadkhgaadoor", sum := "e94da10f4e330e5c2852ced647b8d3089e2f7a23d2ea0fb142019ec7443b9870", func := "fusee/fuseelaw28.PolicyForms", spec := "policyForms", inPlace := ["internal/reflectlite.ValueOf", "(internal/reflectlite.Value).Type", "(internal/reflectlite.Value).IsNil", "internal/reflectlite.TypeOf", "(internal/reflectlite.Value).Elem", "(internal/reflectlite.Value).Set"], unfollowed := true, recurses := true, named := ["errors.errorType"], apart := false, laid := [("errors.errorType", laid_errors_errorType)], narrowed := true }
def PolicyFormsUptoSaid : Prop := policyFormsUptoRow.holds Tryd.pinned (OpenSpec.upto policyFormsSpec)

/-- 'fuseelaw28.PolicyBack', WHERE WHAT IT READS IS OF BULK AT MOST 1048576: true; the input reads as it did. -/
def policyBackUptoRow : OpenClaim := { program := "ytbgmbbkmadkhgaadoor", sum := "e94da10f4e330e5c2852ced647b8d3089e2f7a23d2ea0fb142019ec7443b9870", func := "fusee/fuseelaw28.PolicyBack", spec := "policyBack", inPlace := ["internal/reflectlite.ValueOf", "(internal/reflectlite.Value).Type", "(internal/reflectlite.Value).IsNil", "internal/reflectlite.TypeOf", "(internal/reflectlite.Value).Elem", "(internal/reflectlite.Value).Set"], unfollowed := true, recurses := true, named := ["errors.errorType"], apart := false, laid := [("errors.errorType", laid_errors_errorType)], narrowed := true }
def PolicyBackUptoSaid : Prop := policyBackUptoRow.holds Tryd.pinned (OpenSpec.upto policyBackSpec)

/-- 'fuseelaw32.NetCounts', WHERE WHAT IT READS IS OF BULK AT MOST 1048576: true; the input reads as it did. -/
def netCountsUptoRow : OpenClaim := { program := "ytbgmbbkmadkhgaadoor", sum := "e94da10f4e330e5c2852ced647b8d3089e2f7a23d2ea0fb142019ec7443b9870", func := "fusee/fuseelaw32.NetCounts", spec := "netCounts", inPlace := ["internal/reflectlite.ValueOf", "(internal/reflectlite.Value).Type", "(internal/reflectlite.Value).IsNil", "internal/reflectlite.TypeOf", "(internal/reflectlite.Value).Elem", "(internal/reflectlite.Value).Set"], unfollowed := true, recurses := true, named := ["errors.errorType"], apart := false, laid := [("errors.errorType", laid_errors_errorType)], narrowed := true }
def NetCountsUptoSaid : Prop := netCountsUptoRow.holds Tryd.pinned (OpenSpec.upto netCountsSpec)

/-- 'fuseelaw41.NtpForms', WHERE WHAT IT READS IS OF BULK AT MOST 1048576: true; the input reads as it did. -/
def ntpFormsUptoRow : OpenClaim := { program := "ytbgmbbkmadkhgaadoor", sum := "e94da10f4e330e5c2852ced647b8d3089e2f7a23d2ea0fb142019ec7443b9870", func := "fusee/fuseelaw41.NtpForms", spec := "ntpForms", inPlace := ["internal/reflectlite.ValueOf", "(internal/reflectlite.Value).Type", "(internal/reflectlite.Value).IsNil", "internal/reflectlite.TypeOf", "(internal/reflectlite.Value).Elem", "(internal/reflectlite.Value).Set"], unfollowed := true, recurses := true, named := ["math/bits.divideError", "math/bits.overflowError", "errors.errorType"], apart := false, laid := [("errors.errorType", laid_errors_errorType)], narrowed := true }
def NtpFormsUptoSaid : Prop := ntpFormsUptoRow.holds Tryd.pinned (OpenSpec.upto ntpFormsSpec)

/-- 'fuseelaw41.NtpAsks', WHERE WHAT IT READS IS OF BULK AT MOST 1048576: true; the input reads as it did. -/
def ntpAsksUptoRow : OpenClaim := { program := "ytbgmbbkmadkhgaadoor", sum := "e94da10f4e330e5c2852ced647b8d3089e2f7a23d2ea0fb142019ec7443b9870", func := "fusee/fuseelaw41.NtpAsks", spec := "ntpAsks", inPlace := ["internal/reflectlite.ValueOf", "(internal/reflectlite.Value).Type", "(internal/reflectlite.Value).IsNil", "internal/reflectlite.TypeOf", "(internal/reflectlite.Value).Elem", "(internal/reflectlite.Value).Set"], unfollowed := true, recurses := true, named := ["math/bits.divideError", "math/bits.overflowError", "errors.errorType"], apart := false, laid := [("errors.errorType", laid_errors_errorType)], narrowed := true }
def NtpAsksUptoSaid : Prop := ntpAsksUptoRow.holds Tryd.pinned (OpenSpec.upto ntpAsksSpec)

end Rows
end Go.Proofs.YtbgmbbkmadkhgaaDoor
