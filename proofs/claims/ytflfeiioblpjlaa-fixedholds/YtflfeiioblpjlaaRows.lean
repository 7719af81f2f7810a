/-
  No cell of these rows narrows 'for every input' (looked for: loops, veiled, ifaces, maps, wideKeys, modest, calm, conditions, laid).
  DERIVED. THE GIVEN ROWS OF THIS SEAT. 5 by the template 'for every input the law returns true; each argument reads behind the call as it read before'; 0 by the template 'total and deterministic' (their statements: YtflfeiioblpjlaaTotals.lean).
  GIVEN WITH THE SEED: the statements are not yours to turn. If you find one false, say at which input.
  Laid BY PROGRAM, IN A SANDBOX (cutbox-rows.mjs): the forced cells as the released guide's own fill.sh prints them over the translation 231bbf2974d841d3… (all of the seat's roots in one cut). By AI agents, Wed Nov 11 2026. No macro, syntax, notation, axiom, sorry.
-/
import Derived.Test.YtflfeiioblpjlaaChecked
import GoSem.Claim
import GoSem.ClaimJoined
import GoSem.ClaimMapViews
import Derived.JoinedTies
import Derived.KernelRfl
namespace Go.Proofs.Ytflfeiioblpjlaa
/- THE CELL 'sum', in the pinned program and in every row, IS THE sha256 OF THE DUMP (.gsa) THAT YtflfeiioblpjlaaProg.lean LOADS. Nothing in Lean hashes anything: it is a label: what it is worth is what the hold of that sum in a sandbox is worth. -/
noncomputable def Try.pinned : Pinned := { name := "ytflfeiioblpjlaa", sum := "231bbf2974d841d3f70fc9ad0cd47ddb2661f3722c5da5b0a183df23bdcea68e", checked := Try.checked }
namespace Rows
def none {H : Type} : Left H := { results := [], args := [] }

/-- 'dioramalaw01.FixedNames': WHATEVER THE INPUT: true; the input reads as it did. -/
def fixedNamesSpec : ChangeSpec := { name := "fixedNames", fn := fun _ => fun
  | [] => { results := [.lit (.bool true)], args := [] }
  | _ => none }
def fixedNamesRow : OpenClaim := { program := "ytflfeiioblpjlaa", sum := "231bbf2974d841d3f70fc9ad0cd47ddb2661f3722c5da5b0a183df23bdcea68e", func := "diorama/dioramalaw01.FixedNames", spec := "fixedNames", apart := false }
def FixedNamesSaid : Prop := fixedNamesRow.holds Try.pinned (OpenSpec.ofChange fixedNamesSpec)

/-- ITS FALSE NEIGHBOUR: 'it returns false'. Refute it at one input. -/
def fixedNamesWrong : ChangeSpec := { name := "fixedNames", fn := fun _ => fun
  | [] => { results := [.lit (.bool false)], args := [] }
  | _ => none }
def FixedNamesWrongFalsely : Prop := fixedNamesRow.holds Try.pinned (OpenSpec.ofChange fixedNamesWrong)

/-- 'dioramalaw01.FixedSpans': WHATEVER THE INPUT: true; the input reads as it did. -/
def fixedSpansSpec : ChangeSpec := { name := "fixedSpans", fn := fun _ => fun
  | [d1, d2, d3] => { results := [.lit (.bool true)], args := [d1, d2, d3] }
  | _ => none }
def fixedSpansRow : OpenClaim := { program := "ytflfeiioblpjlaa", sum := "231bbf2974d841d3f70fc9ad0cd47ddb2661f3722c5da5b0a183df23bdcea68e", func := "diorama/dioramalaw01.FixedSpans", spec := "fixedSpans", apart := false }
def FixedSpansSaid : Prop := fixedSpansRow.holds Try.pinned (OpenSpec.ofChange fixedSpansSpec)

/-- ITS FALSE NEIGHBOUR: 'it returns false'. Refute it at one input. -/
def fixedSpansWrong : ChangeSpec := { name := "fixedSpans", fn := fun _ => fun
  | [d1, d2, d3] => { results := [.lit (.bool false)], args := [d1, d2, d3] }
  | _ => none }
def FixedSpansWrongFalsely : Prop := fixedSpansRow.holds Try.pinned (OpenSpec.ofChange fixedSpansWrong)

/-- 'dioramalaw01.FixedFloor': WHATEVER THE INPUT: true; the input reads as it did. -/
def fixedFloorSpec : ChangeSpec := { name := "fixedFloor", fn := fun _ => fun
  | [d1, d2] => { results := [.lit (.bool true)], args := [d1, d2] }
  | _ => none }
def fixedFloorRow : OpenClaim := { program := "ytflfeiioblpjlaa", sum := "231bbf2974d841d3f70fc9ad0cd47ddb2661f3722c5da5b0a183df23bdcea68e", func := "diorama/dioramalaw01.FixedFloor", spec := "fixedFloor", apart := false }
def FixedFloorSaid : Prop := fixedFloorRow.holds Try.pinned (OpenSpec.ofChange fixedFloorSpec)

/-- ITS FALSE NEIGHBOUR: 'it returns false'. Refute it at one input. -/
def fixedFloorWrong : ChangeSpec := { name := "fixedFloor", fn := fun _ => fun
  | [d1, d2] => { results := [.lit (.bool false)], args := [d1, d2] }
  | _ => none }
def FixedFloorWrongFalsely : Prop := fixedFloorRow.holds Try.pinned (OpenSpec.ofChange fixedFloorWrong)

/-- 'dioramalaw01.FixedHolds': WHATEVER THE INPUT: true; the input reads as it did. -/
def fixedHoldsSpec : ChangeSpec := { name := "fixedHolds", fn := fun _ => fun
  | [d1, d2, d3, d4, d5] => { results := [.lit (.bool true)], args := [d1, d2, d3, d4, d5] }
  | _ => none }
def fixedHoldsRow : OpenClaim := { program := "ytflfeiioblpjlaa", sum := "231bbf2974d841d3f70fc9ad0cd47ddb2661f3722c5da5b0a183df23bdcea68e", func := "diorama/dioramalaw01.FixedHolds", spec := "fixedHolds", apart := false }
def FixedHoldsSaid : Prop := fixedHoldsRow.holds Try.pinned (OpenSpec.ofChange fixedHoldsSpec)

/-- ITS FALSE NEIGHBOUR: 'it returns false'. Refute it at one input. -/
def fixedHoldsWrong : ChangeSpec := { name := "fixedHolds", fn := fun _ => fun
  | [d1, d2, d3, d4, d5] => { results := [.lit (.bool false)], args := [d1, d2, d3, d4, d5] }
  | _ => none }
def FixedHoldsWrongFalsely : Prop := fixedHoldsRow.holds Try.pinned (OpenSpec.ofChange fixedHoldsWrong)

/-- 'dioramalaw01.FixedEnds': WHATEVER THE INPUT: true; the input reads as it did. -/
def fixedEndsSpec : ChangeSpec := { name := "fixedEnds", fn := fun _ => fun
  | [d1, d2, d3] => { results := [.lit (.bool true)], args := [d1, d2, d3] }
  | _ => none }
def fixedEndsRow : OpenClaim := { program := "ytflfeiioblpjlaa", sum := "231bbf2974d841d3f70fc9ad0cd47ddb2661f3722c5da5b0a183df23bdcea68e", func := "diorama/dioramalaw01.FixedEnds", spec := "fixedEnds", apart := false }
def FixedEndsSaid : Prop := fixedEndsRow.holds Try.pinned (OpenSpec.ofChange fixedEndsSpec)

/-- ITS FALSE NEIGHBOUR: 'it returns false'. Refute it at one input. -/
def fixedEndsWrong : ChangeSpec := { name := "fixedEnds", fn := fun _ => fun
  | [d1, d2, d3] => { results := [.lit (.bool false)], args := [d1, d2, d3] }
  | _ => none }
def FixedEndsWrongFalsely : Prop := fixedEndsRow.holds Try.pinned (OpenSpec.ofChange fixedEndsWrong)

/- THE SECOND FORM. 'bulk': how many values and letters a reading holds, each counted each time it is reached (what is shared counts as often as it is met; a slice's spare places count too). A statement '..UptoSaid' is the law's where the arguments, and the package variables that the reading takes, are together of bulk at most 1048576: NARROWER than '..Said'. Prove '..Said' where nothing that the law and all that it calls make is longer than what came in: it says more and counts as full. Else prove '..UptoSaid'. A law counts once. -/
mutual
def uptoBulk {H : Type} : DataW H → Nat
  | .lit (.string bytes) => bytes.length + 1
  | .lit _ => 1
  | .nil => 1
  | .ptr d => uptoBulk d + 1
  | .slice elems spare => uptoBulkAll elems + uptoBulkAll spare + 1
  | .agg parts => uptoBulkAll parts + 1
  | .iface _ d => uptoBulk d + 1
  | .map entries => uptoBulkEntries entries + 1
  | .held _ => 1
def uptoBulkAll {H : Type} : List (DataW H) → Nat
  | [] => 0
  | d :: r => uptoBulk d + uptoBulkAll r
def uptoBulkEntries {H : Type} : List (Lit × DataW H) → Nat
  | [] => 0
  | x :: r => uptoBulkEntry x + uptoBulkEntries r
def uptoBulkEntry {H : Type} : Lit × DataW H → Nat
  | (.string bytes, d) => bytes.length + uptoBulk d + 1
  | (_, d) => uptoBulk d + 1
 end
def uptoSmall : (H : Type) → List (DataW H) → Bool := fun _ ds => decide (uptoBulkAll ds ≤ 1048576)
def OpenSpec.upto (s : _root_.Go.ChangeSpec) : _root_.Go.OpenSpec := { _root_.Go.OpenSpec.ofChange s with cond := some uptoSmall }

/-- 'dioramalaw01.FixedNames', WHERE WHAT IT READS IS OF BULK AT MOST 1048576: true; the input reads as it did. -/
def fixedNamesUptoRow : OpenClaim := { program := "ytflfeiioblpjlaa", sum := "231bbf2974d841d3f70fc9ad0cd47ddb2661f3722c5da5b0a183df23bdcea68e", func := "diorama/dioramalaw01.FixedNames", spec := "fixedNames", apart := false, narrowed := true }
def FixedNamesUptoSaid : Prop := fixedNamesUptoRow.holds Try.pinned (OpenSpec.upto fixedNamesSpec)

/-- 'dioramalaw01.FixedSpans', WHERE WHAT IT READS IS OF BULK AT MOST 1048576: true; the input reads as it did. -/
def fixedSpansUptoRow : OpenClaim := { program := "ytflfeiioblpjlaa", sum := "231bbf2974d841d3f70fc9ad0cd47ddb2661f3722c5da5b0a183df23bdcea68e", func := "diorama/dioramalaw01.FixedSpans", spec := "fixedSpans", apart := false, narrowed := true }
def FixedSpansUptoSaid : Prop := fixedSpansUptoRow.holds Try.pinned (OpenSpec.upto fixedSpansSpec)

/-- 'dioramalaw01.FixedFloor', WHERE WHAT IT READS IS OF BULK AT MOST 1048576: true; the input reads as it did. -/
def fixedFloorUptoRow : OpenClaim := { program := "ytflfeiioblpjlaa", sum := "231bbf2974d841d3f70fc9ad0cd47ddb2661f3722c5da5b0a183df23bdcea68e", func := "diorama/dioramalaw01.FixedFloor", spec := "fixedFloor", apart := false, narrowed := true }
def FixedFloorUptoSaid : Prop := fixedFloorUptoRow.holds Try.pinned (OpenSpec.upto fixedFloorSpec)

/-- 'dioramalaw01.FixedHolds', WHERE WHAT IT READS IS OF BULK AT MOST 1048576: true; the input reads as it did. -/
def fixedHoldsUptoRow : OpenClaim := { program := "ytflfeiioblpjlaa", sum := "231bbf2974d841d3f70fc9ad0cd47ddb2661f3722c5da5b0a183df23bdcea68e", func := "diorama/dioramalaw01.FixedHolds", spec := "fixedHolds", apart := false, narrowed := true }
def FixedHoldsUptoSaid : Prop := fixedHoldsUptoRow.holds Try.pinned (OpenSpec.upto fixedHoldsSpec)

/-- 'dioramalaw01.FixedEnds', WHERE WHAT IT READS IS OF BULK AT MOST 1048576: true; the input reads as it did. -/
def fixedEndsUptoRow : OpenClaim := { program := "ytflfeiioblpjlaa", sum := "231bbf2974d841d3f70fc9ad0cd47ddb2661f3722c5da5b0a183df23bdcea68e", func := "diorama/dioramalaw01.FixedEnds", spec := "fixedEnds", apart := false, narrowed := true }
def FixedEndsUptoSaid : Prop := fixedEndsUptoRow.holds Try.pinned (OpenSpec.upto fixedEndsSpec)

end Rows
end Go.Proofs.Ytflfeiioblpjlaa
