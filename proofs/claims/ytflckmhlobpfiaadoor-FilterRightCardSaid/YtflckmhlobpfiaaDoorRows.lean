/-
  NARROWER THAN 'FOR EVERY INPUT', by the rows' own cells (each row's printed sentence says how): BlobForms: laid · BlobBack: laid · LeapForms: laid · ZoneForms: laid · LocalTells: laid · LocalBack: laid · SpanVotes: laid · SpanMost: laid · FilterTells: laid · FilterRight: laid · FilterOld: laid · FuzzTells: laid · FuzzHolds: laid.
  DERIVED. THE GIVEN ROWS OF THIS SEAT. 13 by the template 'for every input the law returns true; each argument reads behind the call as it read before'; 0 by the template 'total and deterministic' (their statements: YtflckmhlobpfiaaDoorTotals.lean).
  GIVEN WITH THE SEED: the statements are not yours to turn. If you find one false, say at which input.
  Laid BY PROGRAM, IN A SANDBOX (cutbox-rows.mjs): the forced cells as the released guide's own fill.sh prints them over the translation 656da9a1c87c1b3f… (all of the seat's roots in one cut). By AI agents, Wed Nov 11 2026. No macro, syntax, notation, axiom, sorry.
-/
import Derived.Test.YtflckmhlobpfiaaDoorChecked
import GoSem.Claim
import GoSem.ClaimJoined
import GoSem.ClaimMapViews
import Derived.JoinedTies
import Derived.KernelRfl
namespace Go.Proofs.YtflckmhlobpfiaaDoor
/- THE CELL 'sum', in the pinned program and in every row, IS THE sha256 OF THE DUMP (.gsa) THAT YtflckmhlobpfiaaDoorProg.lean LOADS. Nothing in Lean hashes anything: it is a label: what it is worth is what the hold of that sum in a sandbox is worth. -/
noncomputable def Tryd.pinned : Pinned := { name := "ytflckmhlobpfiaadoor", sum := "656da9a1c87c1b3f10fdbd5577047888f3311d52d15dbf29ce1cebf65692a34d", checked := Tryd.checked }
namespace Rows
def none {H : Type} : Left H := { results := [], args := [] }

/- WHAT THE LISTED PACKAGE-LEVEL VARIABLES READ AS WHEN THE CALL BEGINS. Each datum BY PROGRAM (the guide's laid-datum.mjs) off the statement by which the dump's own 'gosem.cut.vars' lays the variable. In a bare row this is a premise. The card (YtflckmhlobpfiaaDoorCards.lean) ties it to the program's text. -/
def laid_errors_errorType {H : Type} : DataW H := .iface "internal/reflectlite.rtype" (.agg [.ptr (.lit (.string [101, 114, 114, 111, 114]))])

/-- 'fuseelaw06.BlobForms': WHATEVER THE INPUT: true; the input reads as it did. -/
def blobFormsSpec : ChangeSpec := { name := "blobForms", fn := fun _ => fun
  | [d1, d2, d3] => { results := [.lit (.bool true)], args := [d1, d2, d3] }
  | _ => none }
def blobFormsRow : OpenClaim := { program := "ytflckmhlobpfiaadoor", sum := "656da9a1c87c1b3f10fdbd5577047888f3311d52d15dbf29ce1cebf65692a34d", func := "fusee/fuseelaw06.BlobForms", spec := "blobForms", inPlace := ["internal/reflectlite.ValueOf", "(internal/reflectlite.Value).Type", "(internal/reflectlite.Value).IsNil", "internal/reflectlite.TypeOf", "(internal/reflectlite.Value).Elem", "(internal/reflectlite.Value).Set"], unfollowed := true, recurses := true, named := ["errors.errorType"], apart := false, laid := [("errors.errorType", laid_errors_errorType)] }
def BlobFormsSaid : Prop := blobFormsRow.holds Tryd.pinned (OpenSpec.ofChange blobFormsSpec)

/-- ITS FALSE NEIGHBOUR: 'it returns false'. Refute it at one input. -/
def blobFormsWrong : ChangeSpec := { name := "blobForms", fn := fun _ => fun
  | [d1, d2, d3] => { results := [.lit (.bool false)], args := [d1, d2, d3] }
  | _ => none }
def BlobFormsWrongFalsely : Prop := blobFormsRow.holds Tryd.pinned (OpenSpec.ofChange blobFormsWrong)

/-- 'fuseelaw06.BlobBack': WHATEVER THE INPUT: true; the input reads as it did. -/
def blobBackSpec : ChangeSpec := { name := "blobBack", fn := fun _ => fun
  | [d1, d2, d3] => { results := [.lit (.bool true)], args := [d1, d2, d3] }
  | _ => none }
def blobBackRow : OpenClaim := { program := "ytflckmhlobpfiaadoor", sum := "656da9a1c87c1b3f10fdbd5577047888f3311d52d15dbf29ce1cebf65692a34d", func := "fusee/fuseelaw06.BlobBack", spec := "blobBack", inPlace := ["internal/reflectlite.ValueOf", "(internal/reflectlite.Value).Type", "(internal/reflectlite.Value).IsNil", "internal/reflectlite.TypeOf", "(internal/reflectlite.Value).Elem", "(internal/reflectlite.Value).Set"], unfollowed := true, recurses := true, named := ["errors.errorType"], apart := false, laid := [("errors.errorType", laid_errors_errorType)] }
def BlobBackSaid : Prop := blobBackRow.holds Tryd.pinned (OpenSpec.ofChange blobBackSpec)

/-- ITS FALSE NEIGHBOUR: 'it returns false'. Refute it at one input. -/
def blobBackWrong : ChangeSpec := { name := "blobBack", fn := fun _ => fun
  | [d1, d2, d3] => { results := [.lit (.bool false)], args := [d1, d2, d3] }
  | _ => none }
def BlobBackWrongFalsely : Prop := blobBackRow.holds Tryd.pinned (OpenSpec.ofChange blobBackWrong)

/-- 'fuseelaw09.LeapForms': WHATEVER THE INPUT: true; the input reads as it did. -/
def leapFormsSpec : ChangeSpec := { name := "leapForms", fn := fun _ => fun
  | [d1, d2] => { results := [.lit (.bool true)], args := [d1, d2] }
  | _ => none }
def leapFormsRow : OpenClaim := { program := "ytflckmhlobpfiaadoor", sum := "656da9a1c87c1b3f10fdbd5577047888f3311d52d15dbf29ce1cebf65692a34d", func := "fusee/fuseelaw09.LeapForms", spec := "leapForms", inPlace := ["internal/reflectlite.ValueOf", "(internal/reflectlite.Value).Type", "(internal/reflectlite.Value).IsNil", "internal/reflectlite.TypeOf", "(internal/reflectlite.Value).Elem", "(internal/reflectlite.Value).Set"], unfollowed := true, recurses := true, named := ["errors.errorType"], apart := false, laid := [("errors.errorType", laid_errors_errorType)] }
def LeapFormsSaid : Prop := leapFormsRow.holds Tryd.pinned (OpenSpec.ofChange leapFormsSpec)

/-- ITS FALSE NEIGHBOUR: 'it returns false'. Refute it at one input. -/
def leapFormsWrong : ChangeSpec := { name := "leapForms", fn := fun _ => fun
  | [d1, d2] => { results := [.lit (.bool false)], args := [d1, d2] }
  | _ => none }
def LeapFormsWrongFalsely : Prop := leapFormsRow.holds Tryd.pinned (OpenSpec.ofChange leapFormsWrong)

/-- 'fuseelaw10.ZoneForms': WHATEVER THE INPUT: true; the input reads as it did. -/
def zoneFormsSpec : ChangeSpec := { name := "zoneForms", fn := fun _ => fun
  | [d1, d2] => { results := [.lit (.bool true)], args := [d1, d2] }
  | _ => none }
def zoneFormsRow : OpenClaim := { program := "ytflckmhlobpfiaadoor", sum := "656da9a1c87c1b3f10fdbd5577047888f3311d52d15dbf29ce1cebf65692a34d", func := "fusee/fuseelaw10.ZoneForms", spec := "zoneForms", inPlace := ["internal/reflectlite.ValueOf", "(internal/reflectlite.Value).Type", "(internal/reflectlite.Value).IsNil", "internal/reflectlite.TypeOf", "(internal/reflectlite.Value).Elem", "(internal/reflectlite.Value).Set"], unfollowed := true, recurses := true, named := ["errors.errorType"], apart := false, laid := [("errors.errorType", laid_errors_errorType)] }
def ZoneFormsSaid : Prop := zoneFormsRow.holds Tryd.pinned (OpenSpec.ofChange zoneFormsSpec)

/-- ITS FALSE NEIGHBOUR: 'it returns false'. Refute it at one input. -/
def zoneFormsWrong : ChangeSpec := { name := "zoneForms", fn := fun _ => fun
  | [d1, d2] => { results := [.lit (.bool false)], args := [d1, d2] }
  | _ => none }
def ZoneFormsWrongFalsely : Prop := zoneFormsRow.holds Tryd.pinned (OpenSpec.ofChange zoneFormsWrong)

/-- 'fuseelaw11.LocalTells': WHATEVER THE INPUT: true; the input reads as it did. -/
def localTellsSpec : ChangeSpec := { name := "localTells", fn := fun _ => fun
  | [d1, d2, d3] => { results := [.lit (.bool true)], args := [d1, d2, d3] }
  | _ => none }
def localTellsRow : OpenClaim := { program := "ytflckmhlobpfiaadoor", sum := "656da9a1c87c1b3f10fdbd5577047888f3311d52d15dbf29ce1cebf65692a34d", func := "fusee/fuseelaw11.LocalTells", spec := "localTells", inPlace := ["internal/reflectlite.ValueOf", "(internal/reflectlite.Value).Type", "(internal/reflectlite.Value).IsNil", "internal/reflectlite.TypeOf", "(internal/reflectlite.Value).Elem", "(internal/reflectlite.Value).Set"], unfollowed := true, recurses := true, named := ["errors.errorType"], apart := false, laid := [("errors.errorType", laid_errors_errorType)] }
def LocalTellsSaid : Prop := localTellsRow.holds Tryd.pinned (OpenSpec.ofChange localTellsSpec)

/-- ITS FALSE NEIGHBOUR: 'it returns false'. Refute it at one input. -/
def localTellsWrong : ChangeSpec := { name := "localTells", fn := fun _ => fun
  | [d1, d2, d3] => { results := [.lit (.bool false)], args := [d1, d2, d3] }
  | _ => none }
def LocalTellsWrongFalsely : Prop := localTellsRow.holds Tryd.pinned (OpenSpec.ofChange localTellsWrong)

/-- 'fuseelaw11.LocalBack': WHATEVER THE INPUT: true; the input reads as it did. -/
def localBackSpec : ChangeSpec := { name := "localBack", fn := fun _ => fun
  | [d1, d2, d3] => { results := [.lit (.bool true)], args := [d1, d2, d3] }
  | _ => none }
def localBackRow : OpenClaim := { program := "ytflckmhlobpfiaadoor", sum := "656da9a1c87c1b3f10fdbd5577047888f3311d52d15dbf29ce1cebf65692a34d", func := "fusee/fuseelaw11.LocalBack", spec := "localBack", inPlace := ["internal/reflectlite.ValueOf", "(internal/reflectlite.Value).Type", "(internal/reflectlite.Value).IsNil", "internal/reflectlite.TypeOf", "(internal/reflectlite.Value).Elem", "(internal/reflectlite.Value).Set"], unfollowed := true, recurses := true, named := ["errors.errorType"], apart := false, laid := [("errors.errorType", laid_errors_errorType)] }
def LocalBackSaid : Prop := localBackRow.holds Tryd.pinned (OpenSpec.ofChange localBackSpec)

/-- ITS FALSE NEIGHBOUR: 'it returns false'. Refute it at one input. -/
def localBackWrong : ChangeSpec := { name := "localBack", fn := fun _ => fun
  | [d1, d2, d3] => { results := [.lit (.bool false)], args := [d1, d2, d3] }
  | _ => none }
def LocalBackWrongFalsely : Prop := localBackRow.holds Tryd.pinned (OpenSpec.ofChange localBackWrong)

/-- 'fuseelaw13.SpanVotes': WHATEVER THE INPUT: true; the input reads as it did. -/
def spanVotesSpec : ChangeSpec := { name := "spanVotes", fn := fun _ => fun
  | [d] => { results := [.lit (.bool true)], args := [d] }
  | _ => none }
def spanVotesRow : OpenClaim := { program := "ytflckmhlobpfiaadoor", sum := "656da9a1c87c1b3f10fdbd5577047888f3311d52d15dbf29ce1cebf65692a34d", func := "fusee/fuseelaw13.SpanVotes", spec := "spanVotes", inPlace := ["internal/reflectlite.ValueOf", "(internal/reflectlite.Value).Type", "(internal/reflectlite.Value).IsNil", "internal/reflectlite.TypeOf", "(internal/reflectlite.Value).Elem", "(internal/reflectlite.Value).Set"], unfollowed := true, recurses := true, named := ["errors.errorType"], apart := false, laid := [("errors.errorType", laid_errors_errorType)] }
def SpanVotesSaid : Prop := spanVotesRow.holds Tryd.pinned (OpenSpec.ofChange spanVotesSpec)

/-- ITS FALSE NEIGHBOUR: 'it returns false'. Refute it at one input. -/
def spanVotesWrong : ChangeSpec := { name := "spanVotes", fn := fun _ => fun
  | [d] => { results := [.lit (.bool false)], args := [d] }
  | _ => none }
def SpanVotesWrongFalsely : Prop := spanVotesRow.holds Tryd.pinned (OpenSpec.ofChange spanVotesWrong)

/-- 'fuseelaw13.SpanMost': WHATEVER THE INPUT: true; the input reads as it did. -/
def spanMostSpec : ChangeSpec := { name := "spanMost", fn := fun _ => fun
  | [d1, d2, d3] => { results := [.lit (.bool true)], args := [d1, d2, d3] }
  | _ => none }
def spanMostRow : OpenClaim := { program := "ytflckmhlobpfiaadoor", sum := "656da9a1c87c1b3f10fdbd5577047888f3311d52d15dbf29ce1cebf65692a34d", func := "fusee/fuseelaw13.SpanMost", spec := "spanMost", inPlace := ["internal/reflectlite.ValueOf", "(internal/reflectlite.Value).Type", "(internal/reflectlite.Value).IsNil", "internal/reflectlite.TypeOf", "(internal/reflectlite.Value).Elem", "(internal/reflectlite.Value).Set"], unfollowed := true, recurses := true, named := ["errors.errorType"], apart := false, laid := [("errors.errorType", laid_errors_errorType)] }
def SpanMostSaid : Prop := spanMostRow.holds Tryd.pinned (OpenSpec.ofChange spanMostSpec)

/-- ITS FALSE NEIGHBOUR: 'it returns false'. Refute it at one input. -/
def spanMostWrong : ChangeSpec := { name := "spanMost", fn := fun _ => fun
  | [d1, d2, d3] => { results := [.lit (.bool false)], args := [d1, d2, d3] }
  | _ => none }
def SpanMostWrongFalsely : Prop := spanMostRow.holds Tryd.pinned (OpenSpec.ofChange spanMostWrong)

/-- 'fuseelaw15.FilterTells': WHATEVER THE INPUT: true; the input reads as it did. -/
def filterTellsSpec : ChangeSpec := { name := "filterTells", fn := fun _ => fun
  | [d1, d2, d3] => { results := [.lit (.bool true)], args := [d1, d2, d3] }
  | _ => none }
def filterTellsRow : OpenClaim := { program := "ytflckmhlobpfiaadoor", sum := "656da9a1c87c1b3f10fdbd5577047888f3311d52d15dbf29ce1cebf65692a34d", func := "fusee/fuseelaw15.FilterTells", spec := "filterTells", inPlace := ["internal/reflectlite.ValueOf", "(internal/reflectlite.Value).Type", "(internal/reflectlite.Value).IsNil", "internal/reflectlite.TypeOf", "(internal/reflectlite.Value).Elem", "(internal/reflectlite.Value).Set"], unfollowed := true, recurses := true, named := ["math/bits.divideError", "math/bits.overflowError", "errors.errorType"], apart := false, laid := [("errors.errorType", laid_errors_errorType)] }
def FilterTellsSaid : Prop := filterTellsRow.holds Tryd.pinned (OpenSpec.ofChange filterTellsSpec)

/-- ITS FALSE NEIGHBOUR: 'it returns false'. Refute it at one input. -/
def filterTellsWrong : ChangeSpec := { name := "filterTells", fn := fun _ => fun
  | [d1, d2, d3] => { results := [.lit (.bool false)], args := [d1, d2, d3] }
  | _ => none }
def FilterTellsWrongFalsely : Prop := filterTellsRow.holds Tryd.pinned (OpenSpec.ofChange filterTellsWrong)

/-- 'fuseelaw15.FilterRight': WHATEVER THE INPUT: true; the input reads as it did. -/
def filterRightSpec : ChangeSpec := { name := "filterRight", fn := fun _ => fun
  | [d1, d2, d3] => { results := [.lit (.bool true)], args := [d1, d2, d3] }
  | _ => none }
def filterRightRow : OpenClaim := { program := "ytflckmhlobpfiaadoor", sum := "656da9a1c87c1b3f10fdbd5577047888f3311d52d15dbf29ce1cebf65692a34d", func := "fusee/fuseelaw15.FilterRight", spec := "filterRight", inPlace := ["internal/reflectlite.ValueOf", "(internal/reflectlite.Value).Type", "(internal/reflectlite.Value).IsNil", "internal/reflectlite.TypeOf", "(internal/reflectlite.Value).Elem", "(internal/reflectlite.Value).Set"], unfollowed := true, recurses := true, named := ["math/bits.divideError", "math/bits.overflowError", "errors.errorType"], apart := false, laid := [("errors.errorType", laid_errors_errorType)] }
def FilterRightSaid : Prop := filterRightRow.holds Tryd.pinned (OpenSpec.ofChange filterRightSpec)

/-- ITS FALSE NEIGHBOUR: 'it returns false'. Refute it at one input. -/
def filterRightWrong : ChangeSpec := { name := "filterRight", fn := fun _ => fun
  | [d1, d2, d3] => { results := [.lit (.bool false)], args := [d1, d2, d3] }
  | _ => none }
def FilterRightWrongFalsely : Prop := filterRightRow.holds Tryd.pinned (OpenSpec.ofChange filterRightWrong)

/-- 'fuseelaw15.FilterOld': WHATEVER THE INPUT: true; the input reads as it did. -/
def filterOldSpec : ChangeSpec := { name := "filterOld", fn := fun _ => fun
  | [d1, d2, d3] => { results := [.lit (.bool true)], args := [d1, d2, d3] }
  | _ => none }
def filterOldRow : OpenClaim := { program := "ytflckmhlobpfiaadoor", sum := "656da9a1c87c1b3f10fdbd5577047888f3311d52d15dbf29ce1cebf65692a34d", func := "fusee/fuseelaw15.FilterOld", spec := "filterOld", inPlace := ["internal/reflectlite.ValueOf", "(internal/reflectlite.Value).Type", "(internal/reflectlite.Value).IsNil", "internal/reflectlite.TypeOf", "(internal/reflectlite.Value).Elem", "(internal/reflectlite.Value).Set"], unfollowed := true, recurses := true, named := ["math/bits.divideError", "math/bits.overflowError", "errors.errorType"], apart := false, laid := [("errors.errorType", laid_errors_errorType)] }
def FilterOldSaid : Prop := filterOldRow.holds Tryd.pinned (OpenSpec.ofChange filterOldSpec)

/-- ITS FALSE NEIGHBOUR: 'it returns false'. Refute it at one input. -/
def filterOldWrong : ChangeSpec := { name := "filterOld", fn := fun _ => fun
  | [d1, d2, d3] => { results := [.lit (.bool false)], args := [d1, d2, d3] }
  | _ => none }
def FilterOldWrongFalsely : Prop := filterOldRow.holds Tryd.pinned (OpenSpec.ofChange filterOldWrong)

/-- 'fuseelaw25.FuzzTells': WHATEVER THE INPUT: true; the input reads as it did. -/
def fuzzTellsSpec : ChangeSpec := { name := "fuzzTells", fn := fun _ => fun
  | [d1, d2, d3] => { results := [.lit (.bool true)], args := [d1, d2, d3] }
  | _ => none }
def fuzzTellsRow : OpenClaim := { program := "ytflckmhlobpfiaadoor", sum := "656da9a1c87c1b3f10fdbd5577047888f3311d52d15dbf29ce1cebf65692a34d", func := "fusee/fuseelaw25.FuzzTells", spec := "fuzzTells", inPlace := ["internal/reflectlite.ValueOf", "(internal/reflectlite.Value).Type", "(internal/reflectlite.Value).IsNil", "internal/reflectlite.TypeOf", "(internal/reflectlite.Value).Elem", "(internal/reflectlite.Value).Set"], unfollowed := true, recurses := true, named := ["errors.errorType"], apart := false, laid := [("errors.errorType", laid_errors_errorType)] }
def FuzzTellsSaid : Prop := fuzzTellsRow.holds Tryd.pinned (OpenSpec.ofChange fuzzTellsSpec)

/-- ITS FALSE NEIGHBOUR: 'it returns false'. Refute it at one input. -/
def fuzzTellsWrong : ChangeSpec := { name := "fuzzTells", fn := fun _ => fun
  | [d1, d2, d3] => { results := [.lit (.bool false)], args := [d1, d2, d3] }
  | _ => none }
def FuzzTellsWrongFalsely : Prop := fuzzTellsRow.holds Tryd.pinned (OpenSpec.ofChange fuzzTellsWrong)

/-- 'fuseelaw25.FuzzHolds': WHATEVER THE INPUT: true; the input reads as it did. -/
def fuzzHoldsSpec : ChangeSpec := { name := "fuzzHolds", fn := fun _ => fun
  | [d1, d2, d3] => { results := [.lit (.bool true)], args := [d1, d2, d3] }
  | _ => none }
def fuzzHoldsRow : OpenClaim := { program := "ytflckmhlobpfiaadoor", sum := "656da9a1c87c1b3f10fdbd5577047888f3311d52d15dbf29ce1cebf65692a34d", func := "fusee/fuseelaw25.FuzzHolds", spec := "fuzzHolds", inPlace := ["internal/reflectlite.ValueOf", "(internal/reflectlite.Value).Type", "(internal/reflectlite.Value).IsNil", "internal/reflectlite.TypeOf", "(internal/reflectlite.Value).Elem", "(internal/reflectlite.Value).Set"], unfollowed := true, recurses := true, named := ["errors.errorType"], apart := false, laid := [("errors.errorType", laid_errors_errorType)] }
def FuzzHoldsSaid : Prop := fuzzHoldsRow.holds Tryd.pinned (OpenSpec.ofChange fuzzHoldsSpec)

/-- ITS FALSE NEIGHBOUR: 'it returns false'. Refute it at one input. -/
def fuzzHoldsWrong : ChangeSpec := { name := "fuzzHolds", fn := fun _ => fun
  | [d1, d2, d3] => { results := [.lit (.bool false)], args := [d1, d2, d3] }
  | _ => none }
def FuzzHoldsWrongFalsely : Prop := fuzzHoldsRow.holds Tryd.pinned (OpenSpec.ofChange fuzzHoldsWrong)

/- THE SECOND FORM. 'bulk': how many values and letters a reading holds, each counted each time it is reached (what is shared counts as often as it is met; a slice's spare places count too). A statement '..UptoSaid' is the law's where the arguments, and the package variables that the reading takes, are together of bulk at most 1048576: NARROWER than '..Said'. Prove '..Said' where nothing that the law and all that it calls make is longer than what came in: it says more and counts as full. Else prove '..UptoSaid'. A law counts once. -/
mutual
def uptoBulk {H : Type} : DataW H → Nat
  | .lit (.string bytes) => bytes.length + 1
  | .lit _ => 1
  | .nil => 1
  | .ptr d => uptoBulk d + 1
  | .slice elems spare => uptoBulkAll elems + uptoBulkAll spare + 1
  | .agg parts => uptoBulkAll parts + 1
  | .iface _ d => uptoBulk d + 1
  | .map entries => uptoBulkEntries entries + 1
  | .held _ => 1
def uptoBulkAll {H : Type} : List (DataW H) → Nat
  | [] => 0
  | d :: r => uptoBulk d + uptoBulkAll r
def uptoBulkEntries {H : Type} : List (Lit × DataW H) → Nat
  | [] => 0
  | x :: r => uptoBulkEntry x + uptoBulkEntries r
def uptoBulkEntry {H : Type} : Lit × DataW H → Nat
  | (.string bytes, d) => bytes.length + uptoBulk d + 1
  | (_, d) => uptoBulk d + 1
 end
def uptoSmall : (H : Type) → List (DataW H) → Bool := fun _ ds => decide (uptoBulkAll ds ≤ 1048576)
def OpenSpec.upto (s : _root_.Go.ChangeSpec) : _root_.Go.OpenSpec := { _root_.Go.OpenSpec.ofChange s with cond := some uptoSmall }

/-- 'fuseelaw06.BlobForms', WHERE WHAT IT READS IS OF BULK AT MOST 1048576: true; the input reads as it did. -/
def blobFormsUptoRow : OpenClaim := { program := "ytflckmhlobpfiaadoor", sum := "656da9a1c87c1b3f10fdbd5577047888f3311d52d15dbf29ce1cebf65692a34d", func := "fusee/fuseelaw06.BlobForms", spec := "blobForms", inPlace := ["internal/reflectlite.ValueOf", "(internal/reflectlite.Value).Type", "(internal/reflectlite.Value).IsNil", "internal/reflectlite.TypeOf", "(internal/reflectlite.Value).Elem", "(internal/reflectlite.Value).Set"], unfollowed := true, recurses := true, named := ["errors.errorType"], apart := false, laid := [("errors.errorType", laid_errors_errorType)], narrowed := true }
def BlobFormsUptoSaid : Prop := blobFormsUptoRow.holds Tryd.pinned (OpenSpec.upto blobFormsSpec)

/-- 'fuseelaw06.BlobBack', WHERE WHAT IT READS IS OF BULK AT MOST 1048576: true; the input reads as it did. -/
def blobBackUptoRow : OpenClaim := { program := "ytflckmhlobpfiaadoor", sum := "656da9a1c87c1b3f10fdbd5577047888f3311d52d15dbf29ce1cebf65692a34d", func := "fusee/fuseelaw06.BlobBack", spec := "blobBack", inPlace := ["internal/reflectlite.ValueOf", "(internal/reflectlite.Value).Type", "(internal/reflectlite.Value).IsNil", "internal/reflectlite.TypeOf", "(internal/reflectlite.Value).Elem", "(internal/reflectlite.Value).Set"], unfollowed := true, recurses := true, named := ["errors.errorType"], apart := false, laid := [("errors.errorType", laid_errors_errorType)], narrowed := true }
def BlobBackUptoSaid : Prop := blobBackUptoRow.holds Tryd.pinned (OpenSpec.upto blobBackSpec)

/-- 'fuseelaw09.LeapForms', WHERE WHAT IT READS IS OF BULK AT MOST 1048576: true; the input reads as it did. -/
def leapFormsUptoRow : OpenClaim := { program := "ytflckmhlobpfiaadoor", sum := "656da9a1c87c1b3f10fdbd5577047888f3311d52d15dbf29ce1cebf65692a34d", func := "fusee/fuseelaw09.LeapForms", spec := "leapForms", inPlace := ["internal/reflectlite.ValueOf", "(internal/reflectlite.Value).Type", "(internal/reflectlite.Value).IsNil", "internal/reflectlite.TypeOf", "(internal/reflectlite.Value).Elem", "(internal/reflectlite.Value).Set"], unfollowed := true, recurses := true, named := ["errors.errorType"], apart := false, laid := [("errors.errorType", laid_errors_errorType)], narrowed := true }
def LeapFormsUptoSaid : Prop := leapFormsUptoRow.holds Tryd.pinned (OpenSpec.upto leapFormsSpec)

/-- 'fuseelaw10.ZoneForms', WHERE WHAT IT READS IS OF BULK AT MOST 1048576: true; the input reads as it did. -/
def zoneFormsUptoRow : OpenClaim := { program := "ytflckmhlobpfiaadoor", sum := "656da9a1c87c1b3f10fdbd5577047888f3311d52d15dbf29ce1cebf65692a34d", func := "fusee/fuseelaw10.ZoneForms", spec := "zoneForms", inPlace := ["internal/reflectlite.ValueOf", "(internal/reflectlite.Value).Type", "(internal/reflectlite.Value).IsNil", "internal/reflectlite.TypeOf", "(internal/reflectlite.Value).Elem", "(internal/reflectlite.Value).Set"], unfollowed := true, recurses := true, named := ["errors.errorType"], apart := false, laid := [("errors.errorType", laid_errors_errorType)], narrowed := true }
def ZoneFormsUptoSaid : Prop := zoneFormsUptoRow.holds Tryd.pinned (OpenSpec.upto zoneFormsSpec)

/-- 'fuseelaw11.LocalTells', WHERE WHAT IT READS IS OF BULK AT MOST 1048576: true; the input reads as it did. -/
def localTellsUptoRow : OpenClaim := { program := "ytflckmhlobpfiaadoor", sum := "656da9a1c87c1b3f10fdbd5577047888f3311d52d15dbf29ce1cebf65692a34d", func := "fusee/fuseelaw11.LocalTells", spec := "localTells", inPlace := ["internal/reflectlite.ValueOf", "(internal/reflectlite.Value).Type", "(internal/reflectlite.Value).IsNil", "internal/reflectlite.TypeOf", "(internal/reflectlite.Value).Elem", "(internal/reflectlite.Value).Set"], unfollowed := true, recurses := true, named := ["errors.errorType"], apart := false, laid := [("errors.errorType", laid_errors_errorType)], narrowed := true }
def LocalTellsUptoSaid : Prop := localTellsUptoRow.holds Tryd.pinned (OpenSpec.upto localTellsSpec)

/-- 'fuseelaw11.LocalBack', WHERE WHAT IT READS IS OF BULK AT MOST 1048576: true; the input reads as it did. -/
def localBackUptoRow : OpenClaim := { program := "ytflckmhlobpfiaadoor", sum := "656da9a1c87c1b3f10fdbd5577047888f3311d52d15dbf29ce1cebf65692a34d", func := "fusee/fuseelaw11.LocalBack", spec := "localBack", inPlace := ["internal/reflectlite.ValueOf", "(internal/reflectlite.Value).Type", "(internal/reflectlite.Value).IsNil", "internal/reflectlite.TypeOf", "(internal/reflectlite.Value).Elem", "(internal/reflectlite.Value).Set"], unfollowed := true, recurses := true, named := ["errors.errorType"], apart := false, laid := [("errors.errorType", laid_errors_errorType)], narrowed := true }
def LocalBackUptoSaid : Prop := localBackUptoRow.holds Tryd.pinned (OpenSpec.upto localBackSpec)

/-- 'fuseelaw13.SpanVotes', WHERE WHAT IT READS IS OF BULK AT MOST 1048576: true; the input reads as it did. -/
def spanVotesUptoRow : OpenClaim := { program := "ytflckmhlobpfiaadoor", sum := "656da9a1c87c1b3f10fdbd5577047888f3311d52d15dbf29ce1cebf65692a34d", func := "fusee/fuseelaw13.SpanVotes", spec := "spanVotes", inPlace := ["internal/reflectlite.ValueOf", "(internal/reflectlite.Value).Type", "(internal/reflectlite.Value).IsNil", "internal/reflectlite.TypeOf", "(internal/reflectlite.Value).Elem", "(internal/reflectlite.Value).Set"], unfollowed := true, recurses := true, named := ["errors.errorType"], apart := false, laid := [("errors.errorType", laid_errors_errorType)], narrowed := true }
def SpanVotesUptoSaid : Prop := spanVotesUptoRow.holds Tryd.pinned (OpenSpec.upto spanVotesSpec)

/-- 'fuseelaw13.SpanMost', WHERE WHAT IT READS IS OF BULK AT MOST 1048576: true; the input reads as it did. -/
def spanMostUptoRow : OpenClaim := { program := "ytflckmhlobpfiaadoor", sum := "656da9a1c87c1b3f10fdbd5577047888f3311d52d15dbf29ce1cebf65692a34d", func := "fusee/fuseelaw13.SpanMost", spec := "spanMost", inPlace := ["internal/reflectlite.ValueOf", "(internal/reflectlite.Value).Type", "(internal/reflectlite.Value).IsNil", "internal/reflectlite.TypeOf", "(internal/reflectlite.Value).Elem", "(internal/reflectlite.Value).Set"], unfollowed := true, recurses := true, named := ["errors.errorType"], apart := false, laid := [("errors.errorType", laid_errors_errorType)], narrowed := true }
def SpanMostUptoSaid : Prop := spanMostUptoRow.holds Tryd.pinned (OpenSpec.upto spanMostSpec)

/-- 'fuseelaw15.FilterTells', WHERE WHAT IT READS IS OF BULK AT MOST 1048576: true; the input reads as it did. -/
def filterTellsUptoRow : OpenClaim := { program := "ytflckmhlobpfiaadoor", sum := "656da9a1c87c1b3f10fdbd5577047888f3311d52d15dbf29ce1cebf65692a34d", func := "fusee/fuseelaw15.FilterTells", spec := "filterTells", inPlace := ["internal/reflectlite.ValueOf", "(internal/reflectlite.Value).Type", "(internal/reflectlite.Value).IsNil", "internal/reflectlite.TypeOf", "(internal/reflectlite.Value).Elem", "(internal/reflectlite.Value).Set"], unfollowed := true, recurses := true, named := ["math/bits.divideError", "math/bits.overflowError", "errors.errorType"], apart := false, laid := [("errors.errorType", laid_errors_errorType)], narrowed := true }
def FilterTellsUptoSaid : Prop := filterTellsUptoRow.holds Tryd.pinned (OpenSpec.upto filterTellsSpec)

/-- 'fuseelaw15.FilterRight', WHERE WHAT IT READS IS OF BULK AT MOST 1048576: true; the input reads as it did. -/
def filterRightUptoRow : OpenClaim := { program := "ytflckmhlobpfiaadoor", sum := "656da9a1c87c1b3f10fdbd5577047888f3311d52d15dbf29ce1cebf65692a34d", func := "fusee/fuseelaw15.FilterRight", spec := "filterRight", inPlace := ["internal/reflectlite.ValueOf", "(internal/reflectlite.Value).Type", "(internal/reflectlite.Value).IsNil", "internal/reflectlite.TypeOf", "(internal/reflectlite.Value).Elem", "(internal/reflectlite.Value).Set"], unfollowed := true, recurses := true, named := ["math/bits.divideError", "math/bits.overflowError", "errors.errorType"], apart := false, laid := [("errors.errorType", laid_errors_errorType)], narrowed := true }
def FilterRightUptoSaid : Prop := filterRightUptoRow.holds Tryd.pinned (OpenSpec.upto filterRightSpec)

/-- 'fuseelaw15.FilterOld', WHERE WHAT IT READS IS OF BULK AT MOST 1048576: true; the input reads as it did. -/
def filterOldUptoRow : OpenClaim := { program := "ytflckmhlobpfiaadoor", sum := "656da9a1c87c1b3f10fdbd5577047888f3311d52d15dbf29ce1cebf65692a34d", func := "fusee/fuseelaw15.FilterOld", spec := "filterOld", inPlace := ["internal/reflectlite.ValueOf", "(internal/reflectlite.Value).Type", "(internal/reflectlite.Value).IsNil", "internal/reflectlite.TypeOf", "(internal/reflectlite.Value).Elem", "(internal/reflectlite.Value).Set"], unfollowed := true, recurses := true, named := ["math/bits.divideError", "math/bits.overflowError", "errors.errorType"], apart := false, laid := [("errors.errorType", laid_errors_errorType)], narrowed := true }
def FilterOldUptoSaid : Prop := filterOldUptoRow.holds Tryd.pinned (OpenSpec.upto filterOldSpec)

/-- 'fuseelaw25.FuzzTells', WHERE WHAT IT READS IS OF BULK AT MOST 1048576: true; the input reads as it did. -/
def fuzzTellsUptoRow : OpenClaim := { program := "ytflckmhlobpfiaadoor", sum := "656da9a1c87c1b3f10fdbd5577047888f3311d52d15dbf29ce1cebf65692a34d", func := "fusee/fuseelaw25.FuzzTells", spec := "fuzzTells", inPlace := ["internal/reflectlite.ValueOf", "(internal/reflectlite.Value).Type", "(internal/reflectlite.Value).IsNil", "internal/reflectlite.TypeOf", "(internal/reflectlite.Value).Elem", "(internal/reflectlite.Value).Set"], unfollowed := true, recurses := true, named := ["errors.errorType"], apart := false, laid := [("errors.errorType", laid_errors_errorType)], narrowed := true }
def FuzzTellsUptoSaid : Prop := fuzzTellsUptoRow.holds Tryd.pinned (OpenSpec.upto fuzzTellsSpec)

/-- 'fuseelaw25.FuzzHolds', WHERE WHAT IT READS IS OF BULK AT MOST 1048576: true; the input reads as it did. -/
def fuzzHoldsUptoRow : OpenClaim := { program := "ytflckmhlobpfiaadoor", sum := "656da9a1c87c1b3f10fdbd5577047888f3311d52d15dbf29ce1cebf65692a34d", func := "fusee/fuseelaw25.FuzzHolds", spec := "fuzzHolds", inPlace := ["internal/reflectlite.ValueOf", "(internal/reflectlite.Value).Type", "(internal/reflectlite.Value).IsNil", "internal/reflectlite.TypeOf", "(internal/reflectlite.Value).Elem", "(internal/reflectlite.Value).Set"], unfollowed := true, recurses := true, named := ["errors.errorType"], apart := false, laid := [("errors.errorType", laid_errors_errorType)], narrowed := true }
def FuzzHoldsUptoSaid : Prop := fuzzHoldsUptoRow.holds Tryd.pinned (OpenSpec.upto fuzzHoldsSpec)

end Rows
end Go.Proofs.YtflckmhlobpfiaaDoor
