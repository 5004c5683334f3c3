/-
  NARROWER THAN 'FOR EVERY INPUT', by the rows' own cells (each row's printed sentence says how): SpanSteps: laid · SpanVotes: laid · SpanMost: laid · SpanMeets: laid · ServoSteps: laid · ServoHolds: laid · ServoSlews: laid · FuzzTells: laid · FuzzHolds: laid · SlotTells: laid · SlotRound: laid.
  DERIVED. THE GIVEN ROWS OF THIS SEAT. 11 by the template 'for every input the law returns true; each argument reads behind the call as it read before'; 0 by the template 'total and deterministic' (their statements: YtgkpbokipnfddaaDoorTotals.lean).
  GIVEN WITH THE SEED: the statements are not yours to turn. If you find one false, say at which input.
  Laid BY PROGRAM, IN A SANDBOX (cutbox-rows.mjs): the forced cells as the released guide's own fill.sh prints them over the translation 4dde0c90c93ee9ac… (all of the seat's roots in one cut). By AI agents, Wed Nov 11 2026. No macro, syntax, notation, axiom, sorry.
-/
import Derived.Test.YtgkpbokipnfddaaDoorChecked
import GoSem.Claim
import GoSem.ClaimJoined
import GoSem.ClaimMapViews
import Derived.JoinedTies
import Derived.KernelRfl
namespace Go.Proofs.YtgkpbokipnfddaaDoor
/- THE CELL 'sum', in the pinned program and in every row, IS THE sha256 OF THE DUMP (.gsa) THAT YtgkpbokipnfddaaDoorProg.lean LOADS. Nothing in Lean hashes anything: it is a label: what it is worth is what the hold of that sum in a sandbox is worth. -/
noncomputable def Tryd.pinned : Pinned := { name := "ytgkpbokipnfddaadoor", sum := "4dde0c90c93ee9ac6d53c617ea0ec7d8295d38ecaccf3091bf27d7586dcac7b2", checked := Tryd.checked }
namespace Rows
def none {H : Type} : Left H := { results := [], args := [] }

/- WHAT THE LISTED PACKAGE-LEVEL VARIABLES READ AS WHEN THE CALL BEGINS. Each datum BY PROGRAM (the guide's laid-datum.mjs) off the statement by which the dump's own 'gosem.cut.vars' lays the variable. In a bare row this is a premise. The card (YtgkpbokipnfddaaDoorCards.lean) ties it to the program's text. -/
def laid_errors_errorType {H : Type} : DataW H := .iface "internal/reflectlite.rtype" (.agg [.ptr (.lit (.string [101, 114, 114, 111, 114]))])

/-- 'fuseelaw13.SpanSteps': WHATEVER THE INPUT: true; the input reads as it did. -/
def spanStepsSpec : ChangeSpec := { name := "spanSteps", fn := fun _ => fun
  | [d1, d2, d3] => { results := [.lit (.bool true)], args := [d1, d2, d3] }
  | _ => none }
def spanStepsRow : OpenClaim := { program := "ytgkpbokipnfddaadoor", sum := "4dde0c90c93ee9ac6d53c617ea0ec7d8295d38ecaccf3091bf27d7586dcac7b2", func := "fusee/fuseelaw13.SpanSteps", spec := "spanSteps", inPlace := ["internal/reflectlite.ValueOf", "(internal/reflectlite.Value).Type", "(internal/reflectlite.Value).IsNil", "internal/reflectlite.TypeOf", "(internal/reflectlite.Value).Elem", "(internal/reflectlite.Value).Set"], unfollowed := true, recurses := true, named := ["errors.errorType"], apart := false, laid := [("errors.errorType", laid_errors_errorType)] }
def SpanStepsSaid : Prop := spanStepsRow.holds Tryd.pinned (OpenSpec.ofChange spanStepsSpec)

/-- ITS FALSE NEIGHBOUR: 'it returns false'. Refute it at one input. -/
def spanStepsWrong : ChangeSpec := { name := "spanSteps", fn := fun _ => fun
  | [d1, d2, d3] => { results := [.lit (.bool false)], args := [d1, d2, d3] }
  | _ => none }
def SpanStepsWrongFalsely : Prop := spanStepsRow.holds Tryd.pinned (OpenSpec.ofChange spanStepsWrong)

/-- 'fuseelaw13.SpanVotes': WHATEVER THE INPUT: true; the input reads as it did. -/
def spanVotesSpec : ChangeSpec := { name := "spanVotes", fn := fun _ => fun
  | [d] => { results := [.lit (.bool true)], args := [d] }
  | _ => none }
def spanVotesRow : OpenClaim := { program := "ytgkpbokipnfddaadoor", sum := "4dde0c90c93ee9ac6d53c617ea0ec7d8295d38ecaccf3091bf27d7586dcac7b2", func := "fusee/fuseelaw13.SpanVotes", spec := "spanVotes", inPlace := ["internal/reflectlite.ValueOf", "(internal/reflectlite.Value).Type", "(internal/reflectlite.Value).IsNil", "internal/reflectlite.TypeOf", "(internal/reflectlite.Value).Elem", "(internal/reflectlite.Value).Set"], unfollowed := true, recurses := true, named := ["errors.errorType"], apart := false, laid := [("errors.errorType", laid_errors_errorType)] }
def SpanVotesSaid : Prop := spanVotesRow.holds Tryd.pinned (OpenSpec.ofChange spanVotesSpec)

/-- ITS FALSE NEIGHBOUR: 'it returns false'. Refute it at one input. -/
def spanVotesWrong : ChangeSpec := { name := "spanVotes", fn := fun _ => fun
  | [d] => { results := [.lit (.bool false)], args := [d] }
  | _ => none }
def SpanVotesWrongFalsely : Prop := spanVotesRow.holds Tryd.pinned (OpenSpec.ofChange spanVotesWrong)

/-- 'fuseelaw13.SpanMost': WHATEVER THE INPUT: true; the input reads as it did. -/
def spanMostSpec : ChangeSpec := { name := "spanMost", fn := fun _ => fun
  | [d1, d2, d3] => { results := [.lit (.bool true)], args := [d1, d2, d3] }
  | _ => none }
def spanMostRow : OpenClaim := { program := "ytgkpbokipnfddaadoor", sum := "4dde0c90c93ee9ac6d53c617ea0ec7d8295d38ecaccf3091bf27d7586dcac7b2", func := "fusee/fuseelaw13.SpanMost", spec := "spanMost", inPlace := ["internal/reflectlite.ValueOf", "(internal/reflectlite.Value).Type", "(internal/reflectlite.Value).IsNil", "internal/reflectlite.TypeOf", "(internal/reflectlite.Value).Elem", "(internal/reflectlite.Value).Set"], unfollowed := true, recurses := true, named := ["errors.errorType"], apart := false, laid := [("errors.errorType", laid_errors_errorType)] }
def SpanMostSaid : Prop := spanMostRow.holds Tryd.pinned (OpenSpec.ofChange spanMostSpec)

/-- ITS FALSE NEIGHBOUR: 'it returns false'. Refute it at one input. -/
def spanMostWrong : ChangeSpec := { name := "spanMost", fn := fun _ => fun
  | [d1, d2, d3] => { results := [.lit (.bool false)], args := [d1, d2, d3] }
  | _ => none }
def SpanMostWrongFalsely : Prop := spanMostRow.holds Tryd.pinned (OpenSpec.ofChange spanMostWrong)

/-- 'fuseelaw13.SpanMeets': WHATEVER THE INPUT: true; the input reads as it did. -/
def spanMeetsSpec : ChangeSpec := { name := "spanMeets", fn := fun _ => fun
  | [d1, d2, d3] => { results := [.lit (.bool true)], args := [d1, d2, d3] }
  | _ => none }
def spanMeetsRow : OpenClaim := { program := "ytgkpbokipnfddaadoor", sum := "4dde0c90c93ee9ac6d53c617ea0ec7d8295d38ecaccf3091bf27d7586dcac7b2", func := "fusee/fuseelaw13.SpanMeets", spec := "spanMeets", inPlace := ["internal/reflectlite.ValueOf", "(internal/reflectlite.Value).Type", "(internal/reflectlite.Value).IsNil", "internal/reflectlite.TypeOf", "(internal/reflectlite.Value).Elem", "(internal/reflectlite.Value).Set"], unfollowed := true, recurses := true, named := ["errors.errorType"], apart := false, laid := [("errors.errorType", laid_errors_errorType)] }
def SpanMeetsSaid : Prop := spanMeetsRow.holds Tryd.pinned (OpenSpec.ofChange spanMeetsSpec)

/-- ITS FALSE NEIGHBOUR: 'it returns false'. Refute it at one input. -/
def spanMeetsWrong : ChangeSpec := { name := "spanMeets", fn := fun _ => fun
  | [d1, d2, d3] => { results := [.lit (.bool false)], args := [d1, d2, d3] }
  | _ => none }
def SpanMeetsWrongFalsely : Prop := spanMeetsRow.holds Tryd.pinned (OpenSpec.ofChange spanMeetsWrong)

/-- 'fuseelaw16.ServoSteps': WHATEVER THE INPUT: true; the input reads as it did. -/
def servoStepsSpec : ChangeSpec := { name := "servoSteps", fn := fun _ => fun
  | [d1, d2, d3] => { results := [.lit (.bool true)], args := [d1, d2, d3] }
  | _ => none }
def servoStepsRow : OpenClaim := { program := "ytgkpbokipnfddaadoor", sum := "4dde0c90c93ee9ac6d53c617ea0ec7d8295d38ecaccf3091bf27d7586dcac7b2", func := "fusee/fuseelaw16.ServoSteps", spec := "servoSteps", inPlace := ["math.archFloor", "math.Float64bits", "math.Float64frombits", "math.archTrunc", "internal/reflectlite.ValueOf", "(internal/reflectlite.Value).Type", "(internal/reflectlite.Value).IsNil", "internal/reflectlite.TypeOf", "(internal/reflectlite.Value).Elem", "(internal/reflectlite.Value).Set"], unfollowed := true, recurses := true, named := ["errors.errorType"], apart := false, laid := [("errors.errorType", laid_errors_errorType)] }
def ServoStepsSaid : Prop := servoStepsRow.holds Tryd.pinned (OpenSpec.ofChange servoStepsSpec)

/-- ITS FALSE NEIGHBOUR: 'it returns false'. Refute it at one input. -/
def servoStepsWrong : ChangeSpec := { name := "servoSteps", fn := fun _ => fun
  | [d1, d2, d3] => { results := [.lit (.bool false)], args := [d1, d2, d3] }
  | _ => none }
def ServoStepsWrongFalsely : Prop := servoStepsRow.holds Tryd.pinned (OpenSpec.ofChange servoStepsWrong)

/-- 'fuseelaw16.ServoHolds': WHATEVER THE INPUT: true; the input reads as it did. -/
def servoHoldsSpec : ChangeSpec := { name := "servoHolds", fn := fun _ => fun
  | [d1, d2, d3] => { results := [.lit (.bool true)], args := [d1, d2, d3] }
  | _ => none }
def servoHoldsRow : OpenClaim := { program := "ytgkpbokipnfddaadoor", sum := "4dde0c90c93ee9ac6d53c617ea0ec7d8295d38ecaccf3091bf27d7586dcac7b2", func := "fusee/fuseelaw16.ServoHolds", spec := "servoHolds", inPlace := ["math.archFloor", "math.Float64bits", "math.Float64frombits", "math.archTrunc", "internal/reflectlite.ValueOf", "(internal/reflectlite.Value).Type", "(internal/reflectlite.Value).IsNil", "internal/reflectlite.TypeOf", "(internal/reflectlite.Value).Elem", "(internal/reflectlite.Value).Set"], unfollowed := true, recurses := true, named := ["errors.errorType"], apart := false, laid := [("errors.errorType", laid_errors_errorType)] }
def ServoHoldsSaid : Prop := servoHoldsRow.holds Tryd.pinned (OpenSpec.ofChange servoHoldsSpec)

/-- ITS FALSE NEIGHBOUR: 'it returns false'. Refute it at one input. -/
def servoHoldsWrong : ChangeSpec := { name := "servoHolds", fn := fun _ => fun
  | [d1, d2, d3] => { results := [.lit (.bool false)], args := [d1, d2, d3] }
  | _ => none }
def ServoHoldsWrongFalsely : Prop := servoHoldsRow.holds Tryd.pinned (OpenSpec.ofChange servoHoldsWrong)

/-- 'fuseelaw16.ServoSlews': WHATEVER THE INPUT: true; the input reads as it did. -/
def servoSlewsSpec : ChangeSpec := { name := "servoSlews", fn := fun _ => fun
  | [d1, d2] => { results := [.lit (.bool true)], args := [d1, d2] }
  | _ => none }
def servoSlewsRow : OpenClaim := { program := "ytgkpbokipnfddaadoor", sum := "4dde0c90c93ee9ac6d53c617ea0ec7d8295d38ecaccf3091bf27d7586dcac7b2", func := "fusee/fuseelaw16.ServoSlews", spec := "servoSlews", inPlace := ["math.archFloor", "math.Float64bits", "math.Float64frombits", "math.archTrunc", "internal/reflectlite.ValueOf", "(internal/reflectlite.Value).Type", "(internal/reflectlite.Value).IsNil", "internal/reflectlite.TypeOf", "(internal/reflectlite.Value).Elem", "(internal/reflectlite.Value).Set"], unfollowed := true, recurses := true, named := ["errors.errorType"], apart := false, laid := [("errors.errorType", laid_errors_errorType)] }
def ServoSlewsSaid : Prop := servoSlewsRow.holds Tryd.pinned (OpenSpec.ofChange servoSlewsSpec)

/-- ITS FALSE NEIGHBOUR: 'it returns false'. Refute it at one input. -/
def servoSlewsWrong : ChangeSpec := { name := "servoSlews", fn := fun _ => fun
  | [d1, d2] => { results := [.lit (.bool false)], args := [d1, d2] }
  | _ => none }
def ServoSlewsWrongFalsely : Prop := servoSlewsRow.holds Tryd.pinned (OpenSpec.ofChange servoSlewsWrong)

/-- 'fuseelaw25.FuzzTells': WHATEVER THE INPUT: true; the input reads as it did. -/
def fuzzTellsSpec : ChangeSpec := { name := "fuzzTells", fn := fun _ => fun
  | [d1, d2, d3] => { results := [.lit (.bool true)], args := [d1, d2, d3] }
  | _ => none }
def fuzzTellsRow : OpenClaim := { program := "ytgkpbokipnfddaadoor", sum := "4dde0c90c93ee9ac6d53c617ea0ec7d8295d38ecaccf3091bf27d7586dcac7b2", func := "fusee/fuseelaw25.FuzzTells", spec := "fuzzTells", inPlace := ["internal/reflectlite.ValueOf", "(internal/reflectlite.Value).Type", "(internal/reflectlite.Value).IsNil", "internal/reflectlite.TypeOf", "(internal/reflectlite.Value).Elem", "(internal/reflectlite.Value).Set"], unfollowed := true, recurses := true, named := ["errors.errorType"], apart := false, laid := [("errors.errorType", laid_errors_errorType)] }
def FuzzTellsSaid : Prop := fuzzTellsRow.holds Tryd.pinned (OpenSpec.ofChange fuzzTellsSpec)

/-- ITS FALSE NEIGHBOUR: 'it returns false'. Refute it at one input. -/
def fuzzTellsWrong : ChangeSpec := { name := "fuzzTells", fn := fun _ => fun
  | [d1, d2, d3] => { results := [.lit (.bool false)], args := [d1, d2, d3] }
  | _ => none }
def FuzzTellsWrongFalsely : Prop := fuzzTellsRow.holds Tryd.pinned (OpenSpec.ofChange fuzzTellsWrong)

/-- 'fuseelaw25.FuzzHolds': WHATEVER THE INPUT: true; the input reads as it did. -/
def fuzzHoldsSpec : ChangeSpec := { name := "fuzzHolds", fn := fun _ => fun
  | [d1, d2, d3] => { results := [.lit (.bool true)], args := [d1, d2, d3] }
  | _ => none }
def fuzzHoldsRow : OpenClaim := { program := "ytgkpbokipnfddaadoor", sum := "4dde0c90c93ee9ac6d53c617ea0ec7d8295d38ecaccf3091bf27d7586dcac7b2", func := "fusee/fuseelaw25.FuzzHolds", spec := "fuzzHolds", inPlace := ["internal/reflectlite.ValueOf", "(internal/reflectlite.Value).Type", "(internal/reflectlite.Value).IsNil", "internal/reflectlite.TypeOf", "(internal/reflectlite.Value).Elem", "(internal/reflectlite.Value).Set"], unfollowed := true, recurses := true, named := ["errors.errorType"], apart := false, laid := [("errors.errorType", laid_errors_errorType)] }
def FuzzHoldsSaid : Prop := fuzzHoldsRow.holds Tryd.pinned (OpenSpec.ofChange fuzzHoldsSpec)

/-- ITS FALSE NEIGHBOUR: 'it returns false'. Refute it at one input. -/
def fuzzHoldsWrong : ChangeSpec := { name := "fuzzHolds", fn := fun _ => fun
  | [d1, d2, d3] => { results := [.lit (.bool false)], args := [d1, d2, d3] }
  | _ => none }
def FuzzHoldsWrongFalsely : Prop := fuzzHoldsRow.holds Tryd.pinned (OpenSpec.ofChange fuzzHoldsWrong)

/-- 'fuseelaw35.SlotTells': WHATEVER THE INPUT: true; the input reads as it did. -/
def slotTellsSpec : ChangeSpec := { name := "slotTells", fn := fun _ => fun
  | [d1, d2, d3] => { results := [.lit (.bool true)], args := [d1, d2, d3] }
  | _ => none }
def slotTellsRow : OpenClaim := { program := "ytgkpbokipnfddaadoor", sum := "4dde0c90c93ee9ac6d53c617ea0ec7d8295d38ecaccf3091bf27d7586dcac7b2", func := "fusee/fuseelaw35.SlotTells", spec := "slotTells", inPlace := ["internal/reflectlite.ValueOf", "(internal/reflectlite.Value).Type", "(internal/reflectlite.Value).IsNil", "internal/reflectlite.TypeOf", "(internal/reflectlite.Value).Elem", "(internal/reflectlite.Value).Set"], unfollowed := true, recurses := true, named := ["errors.errorType"], apart := false, laid := [("errors.errorType", laid_errors_errorType)] }
def SlotTellsSaid : Prop := slotTellsRow.holds Tryd.pinned (OpenSpec.ofChange slotTellsSpec)

/-- ITS FALSE NEIGHBOUR: 'it returns false'. Refute it at one input. -/
def slotTellsWrong : ChangeSpec := { name := "slotTells", fn := fun _ => fun
  | [d1, d2, d3] => { results := [.lit (.bool false)], args := [d1, d2, d3] }
  | _ => none }
def SlotTellsWrongFalsely : Prop := slotTellsRow.holds Tryd.pinned (OpenSpec.ofChange slotTellsWrong)

/-- 'fuseelaw35.SlotRound': WHATEVER THE INPUT: true; the input reads as it did. -/
def slotRoundSpec : ChangeSpec := { name := "slotRound", fn := fun _ => fun
  | [d1, d2, d3] => { results := [.lit (.bool true)], args := [d1, d2, d3] }
  | _ => none }
def slotRoundRow : OpenClaim := { program := "ytgkpbokipnfddaadoor", sum := "4dde0c90c93ee9ac6d53c617ea0ec7d8295d38ecaccf3091bf27d7586dcac7b2", func := "fusee/fuseelaw35.SlotRound", spec := "slotRound", inPlace := ["internal/reflectlite.ValueOf", "(internal/reflectlite.Value).Type", "(internal/reflectlite.Value).IsNil", "internal/reflectlite.TypeOf", "(internal/reflectlite.Value).Elem", "(internal/reflectlite.Value).Set"], unfollowed := true, recurses := true, named := ["errors.errorType"], apart := false, laid := [("errors.errorType", laid_errors_errorType)] }
def SlotRoundSaid : Prop := slotRoundRow.holds Tryd.pinned (OpenSpec.ofChange slotRoundSpec)

/-- ITS FALSE NEIGHBOUR: 'it returns false'. Refute it at one input. -/
def slotRoundWrong : ChangeSpec := { name := "slotRound", fn := fun _ => fun
  | [d1, d2, d3] => { results := [.lit (.bool false)], args := [d1, d2, d3] }
  | _ => none }
def SlotRoundWrongFalsely : Prop := slotRoundRow.holds Tryd.pinned (OpenSpec.ofChange slotRoundWrong)

/- THE SECOND FORM. 'bulk': how many values and letters a reading holds, each counted each time it is reached (what is shared counts as often as it is met; a slice's spare places count too). A statement '..UptoSaid' is the law's where the arguments, and the package variables that the reading takes, are together of bulk at most 1048576: NARROWER than '..Said'. Prove '..Said' where nothing that the law and all that it calls make is longer than what came in: it says more and counts as full. Else prove '..UptoSaid'. A law counts once. -/
mutual
def uptoBulk {H : Type} : DataW H → Nat
  | .lit (.string bytes) => bytes.length + 1
  | .lit _ => 1
  | .nil => 1
  | .ptr d => uptoBulk d + 1
  | .slice elems spare => uptoBulkAll elems + uptoBulkAll spare + 1
  | .agg parts => uptoBulkAll parts + 1
  | .iface _ d => uptoBulk d + 1
  | .map entries => uptoBulkEntries entries + 1
  | .held _ => 1
def uptoBulkAll {H : Type} : List (DataW H) → Nat
  | [] => 0
  | d :: r => uptoBulk d + uptoBulkAll r
def uptoBulkEntries {H : Type} : List (Lit × DataW H) → Nat
  | [] => 0
  | x :: r => uptoBulkEntry x + uptoBulkEntries r
def uptoBulkEntry {H : Type} : Lit × DataW H → Nat
  | (.string bytes, d) => bytes.length + uptoBulk d + 1
  | (_, d) => uptoBulk d + 1
 end
def uptoSmall : (H : Type) → List (DataW H) → Bool := fun _ ds => decide (uptoBulkAll ds ≤ 1048576)
def OpenSpec.upto (s : _root_.Go.ChangeSpec) : _root_.Go.OpenSpec := { _root_.Go.OpenSpec.ofChange s with cond := some uptoSmall }

/-- 'fuseelaw13.SpanSteps', WHERE WHAT IT READS IS OF BULK AT MOST 1048576: true; the input reads as it did. -/
def spanStepsUptoRow : OpenClaim := { program := "ytgkpbokipnfddaadoor", sum := "4dde0c90c93ee9ac6d53c617ea0ec7d8295d38ecaccf3091bf27d7586dcac7b2", func := "fusee/fuseelaw13.SpanSteps", spec := "spanSteps", inPlace := ["internal/reflectlite.ValueOf", "(internal/reflectlite.Value).Type", "(internal/reflectlite.Value).IsNil", "internal/reflectlite.TypeOf", "(internal/reflectlite.Value).Elem", "(internal/reflectlite.Value).Set"], unfollowed := true, recurses := true, named := ["errors.errorType"], apart := false, laid := [("errors.errorType", laid_errors_errorType)], narrowed := true }
def SpanStepsUptoSaid : Prop := spanStepsUptoRow.holds Tryd.pinned (OpenSpec.upto spanStepsSpec)

/-- 'fuseelaw13.SpanVotes', WHERE WHAT IT READS IS OF BULK AT MOST 1048576: true; the input reads as it did. -/
def spanVotesUptoRow : OpenClaim := { program := "ytgkpbokipnfddaadoor", sum := "4dde0c90c93ee9ac6d53c617ea0ec7d8295d38ecaccf3091bf27d7586dcac7b2", func := "fusee/fuseelaw13.SpanVotes", spec := "spanVotes", inPlace := ["internal/reflectlite.ValueOf", "(internal/reflectlite.Value).Type", "(internal/reflectlite.Value).IsNil", "internal/reflectlite.TypeOf", "(internal/reflectlite.Value).Elem", "(internal/reflectlite.Value).Set"], unfollowed := true, recurses := true, named := ["errors.errorType"], apart := false, laid := [("errors.errorType", laid_errors_errorType)], narrowed := true }
def SpanVotesUptoSaid : Prop := spanVotesUptoRow.holds Tryd.pinned (OpenSpec.upto spanVotesSpec)

/-- 'fuseelaw13.SpanMost', WHERE WHAT IT READS IS OF BULK AT MOST 1048576: true; the input reads as it did. -/
def spanMostUptoRow : OpenClaim := { program := "ytgkpbokipnfddaadoor", sum := "4dde0c90c93ee9ac6d53c617ea0ec7d8295d38ecaccf3091bf27d7586dcac7b2", func := "fusee/fuseelaw13.SpanMost", spec := "spanMost", inPlace := ["internal/reflectlite.ValueOf", "(internal/reflectlite.Value).Type", "(internal/reflectlite.Value).IsNil", "internal/reflectlite.TypeOf", "(internal/reflectlite.Value).Elem", "(internal/reflectlite.Value).Set"], unfollowed := true, recurses := true, named := ["errors.errorType"], apart := false, laid := [("errors.errorType", laid_errors_errorType)], narrowed := true }
def SpanMostUptoSaid : Prop := spanMostUptoRow.holds Tryd.pinned (OpenSpec.upto spanMostSpec)

/-- 'fuseelaw13.SpanMeets', WHERE WHAT IT READS IS OF BULK AT MOST 1048576: true; the input reads as it did. -/
def spanMeetsUptoRow : OpenClaim := { program := "ytgkpbokipnfddaadoor", sum := "4dde0c90c93ee9ac6d53c617ea0ec7d8295d38ecaccf3091bf27d7586dcac7b2", func := "fusee/fuseelaw13.SpanMeets", spec := "spanMeets", inPlace := ["internal/reflectlite.ValueOf", "(internal/reflectlite.Value).Type", "(internal/reflectlite.Value).IsNil", "internal/reflectlite.TypeOf", "(internal/reflectlite.Value).Elem", "(internal/reflectlite.Value).Set"], unfollowed := true, recurses := true, named := ["errors.errorType"], apart := false, laid := [("errors.errorType", laid_errors_errorType)], narrowed := true }
def SpanMeetsUptoSaid : Prop := spanMeetsUptoRow.holds Tryd.pinned (OpenSpec.upto spanMeetsSpec)

/-- 'fuseelaw16.ServoSteps', WHERE WHAT IT READS IS OF BULK AT MOST 1048576: true; the input reads as it did. -/
def servoStepsUptoRow : OpenClaim := { program := "ytgkpbokipnfddaadoor", sum := "4dde0c90c93ee9ac6d53c617ea0ec7d8295d38ecaccf3091bf27d7586dcac7b2", func := "fusee/fuseelaw16.ServoSteps", spec := "servoSteps", inPlace := ["math.archFloor", "math.Float64bits", "math.Float64frombits", "math.archTrunc", "internal/reflectlite.ValueOf", "(internal/reflectlite.Value).Type", "(internal/reflectlite.Value).IsNil", "internal/reflectlite.TypeOf", "(internal/reflectlite.Value).Elem", "(internal/reflectlite.Value).Set"], unfollowed := true, recurses := true, named := ["errors.errorType"], apart := false, laid := [("errors.errorType", laid_errors_errorType)], narrowed := true }
def ServoStepsUptoSaid : Prop := servoStepsUptoRow.holds Tryd.pinned (OpenSpec.upto servoStepsSpec)

/-- 'fuseelaw16.ServoHolds', WHERE WHAT IT READS IS OF BULK AT MOST 1048576: true; the input reads as it did. -/
def servoHoldsUptoRow : OpenClaim := { program := "ytgkpbokipnfddaadoor", sum := "4dde0c90c93ee9ac6d53c617ea0ec7d8295d38ecaccf3091bf27d7586dcac7b2", func := "fusee/fuseelaw16.ServoHolds", spec := "servoHolds", inPlace := ["math.archFloor", "math.Float64bits", "math.Float64frombits", "math.archTrunc", "internal/reflectlite.ValueOf", "(internal/reflectlite.Value).Type", "(internal/reflectlite.Value).IsNil", "internal/reflectlite.TypeOf", "(internal/reflectlite.Value).Elem", "(internal/reflectlite.Value).Set"], unfollowed := true, recurses := true, named := ["errors.errorType"], apart := false, laid := [("errors.errorType", laid_errors_errorType)], narrowed := true }
def ServoHoldsUptoSaid : Prop := servoHoldsUptoRow.holds Tryd.pinned (OpenSpec.upto servoHoldsSpec)

/-- 'fuseelaw16.ServoSlews', WHERE WHAT IT READS IS OF BULK AT MOST 1048576: true; the input reads as it did. -/
def servoSlewsUptoRow : OpenClaim := { program := "ytgkpbokipnfddaadoor", sum := "4dde0c90c93ee9ac6d53c617ea0ec7d8295d38ecaccf3091bf27d7586dcac7b2", func := "fusee/fuseelaw16.ServoSlews", spec := "servoSlews", inPlace := ["math.archFloor", "math.Float64bits", "math.Float64frombits", "math.archTrunc", "internal/reflectlite.ValueOf", "(internal/reflectlite.Value).Type", "(internal/reflectlite.Value).IsNil", "internal/reflectlite.TypeOf", "(internal/reflectlite.Value).Elem", "(internal/reflectlite.Value).Set"], unfollowed := true, recurses := true, named := ["errors.errorType"], apart := false, laid := [("errors.errorType", laid_errors_errorType)], narrowed := true }
def ServoSlewsUptoSaid : Prop := servoSlewsUptoRow.holds Tryd.pinned (OpenSpec.upto servoSlewsSpec)

/-- 'fuseelaw25.FuzzTells', WHERE WHAT IT READS IS OF BULK AT MOST 1048576: true; the input reads as it did. -/
def fuzzTellsUptoRow : OpenClaim := { program := "ytgkpbokipnfddaadoor", sum := "4dde0c90c93ee9ac6d53c617ea0ec7d8295d38ecaccf3091bf27d7586dcac7b2", func := "fusee/fuseelaw25.FuzzTells", spec := "fuzzTells", inPlace := ["internal/reflectlite.ValueOf", "(internal/reflectlite.Value).Type", "(internal/reflectlite.Value).IsNil", "internal/reflectlite.TypeOf", "(internal/reflectlite.Value).Elem", "(internal/reflectlite.Value).Set"], unfollowed := true, recurses := true, named := ["errors.errorType"], apart := false, laid := [("errors.errorType", laid_errors_errorType)], narrowed := true }
def FuzzTellsUptoSaid : Prop := fuzzTellsUptoRow.holds Tryd.pinned (OpenSpec.upto fuzzTellsSpec)

/-- 'fuseelaw25.FuzzHolds', WHERE WHAT IT READS IS OF BULK AT MOST 1048576: true; the input reads as it did. -/
def fuzzHoldsUptoRow : OpenClaim := { program := "ytgkpbokipnfddaadoor", sum := "4dde0c90c93ee9ac6d53c617ea0ec7d8295d38ecaccf3091bf27d7586dcac7b2", func := "fusee/fuseelaw25.FuzzHolds", spec := "fuzzHolds", inPlace := ["internal/reflectlite.ValueOf", "(internal/reflectlite.Value).Type", "(internal/reflectlite.Value).IsNil", "internal/reflectlite.TypeOf", "(internal/reflectlite.Value).Elem", "(internal/reflectlite.Value).Set"], unfollowed := true, recurses := true, named := ["errors.errorType"], apart := false, laid := [("errors.errorType", laid_errors_errorType)], narrowed := true }
def FuzzHoldsUptoSaid : Prop := fuzzHoldsUptoRow.holds Tryd.pinned (OpenSpec.upto fuzzHoldsSpec)

/-- 'fuseelaw35.SlotTells', WHERE WHAT IT READS IS OF BULK AT MOST 1048576: true; the input reads as it did. -/
def slotTellsUptoRow : OpenClaim := { program := "ytgkpbokipnfddaadoor", sum := "4dde0c90c93ee9ac6d53c617ea0ec7d8295d38ecaccf3091bf27d7586dcac7b2", func := "fusee/fuseelaw35.SlotTells", spec := "slotTells", inPlace := ["internal/reflectlite.ValueOf", "(internal/reflectlite.Value).Type", "(internal/reflectlite.Value).IsNil", "internal/reflectlite.TypeOf", "(internal/reflectlite.Value).Elem", "(internal/reflectlite.Value).Set"], unfollowed := true, recurses := true, named := ["errors.errorType"], apart := false, laid := [("errors.errorType", laid_errors_errorType)], narrowed := true }
def SlotTellsUptoSaid : Prop := slotTellsUptoRow.holds Tryd.pinned (OpenSpec.upto slotTellsSpec)

/-- 'fuseelaw35.SlotRound', WHERE WHAT IT READS IS OF BULK AT MOST 1048576: true; the input reads as it did. -/
def slotRoundUptoRow : OpenClaim := { program := "ytgkpbokipnfddaadoor", sum := "4dde0c90c93ee9ac6d53c617ea0ec7d8295d38ecaccf3091bf27d7586dcac7b2", func := "fusee/fuseelaw35.SlotRound", spec := "slotRound", inPlace := ["internal/reflectlite.ValueOf", "(internal/reflectlite.Value).Type", "(internal/reflectlite.Value).IsNil", "internal/reflectlite.TypeOf", "(internal/reflectlite.Value).Elem", "(internal/reflectlite.Value).Set"], unfollowed := true, recurses := true, named := ["errors.errorType"], apart := false, laid := [("errors.errorType", laid_errors_errorType)], narrowed := true }
def SlotRoundUptoSaid : Prop := slotRoundUptoRow.holds Tryd.pinned (OpenSpec.upto slotRoundSpec)

end Rows
end Go.Proofs.YtgkpbokipnfddaaDoor
