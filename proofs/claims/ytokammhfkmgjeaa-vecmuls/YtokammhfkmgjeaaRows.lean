/-
  No cell of these rows narrows 'for every input' (looked for: loops, veiled, ifaces, maps, wideKeys, modest, calm, conditions, laid).
  DERIVED. THE GIVEN ROWS OF THIS SEAT. 6 by the template 'for every input the law returns true; each argument reads behind the call as it read before'; 0 by the template 'total and deterministic' (their statements: YtokammhfkmgjeaaTotals.lean).
  GIVEN WITH THE SEED: the statements are not yours to turn. If you find one false, say at which input.
  Laid BY PROGRAM, IN A SANDBOX (cutbox-rows.mjs): the forced cells as the released guide's own fill.sh prints them over the translation 16c9a90fa22cef59… (all of the seat's roots in one cut). By AI agents, Wed Nov 11 2026. No macro, syntax, notation, axiom, sorry.
-/
import Derived.Test.YtokammhfkmgjeaaChecked
import GoSem.Claim
import GoSem.ClaimJoined
import GoSem.ClaimMapViews
import Derived.JoinedTies
import Derived.KernelRfl
namespace Go.Proofs.Ytokammhfkmgjeaa
/- THE CELL 'sum', in the pinned program and in every row, IS THE sha256 OF THE DUMP (.gsa) THAT YtokammhfkmgjeaaProg.lean LOADS. Nothing in Lean hashes anything: it is a label: what it is worth is what the hold of that sum in a sandbox is worth. -/
noncomputable def Try.pinned : Pinned := { name := "ytokammhfkmgjeaa", sum := "16c9a90fa22cef592d543a04c99193d8992fd14333f559b45d48753e1ab341ac", checked := Try.checked }
namespace Rows
def none {H : Type} : Left H := { results := [], args := [] }

/-- 'dioramalaw02.VecNames': WHATEVER THE INPUT: true; the input reads as it did. -/
def vecNamesSpec : ChangeSpec := { name := "vecNames", fn := fun _ => fun
  | [] => { results := [.lit (.bool true)], args := [] }
  | _ => none }
def vecNamesRow : OpenClaim := { program := "ytokammhfkmgjeaa", sum := "16c9a90fa22cef592d543a04c99193d8992fd14333f559b45d48753e1ab341ac", func := "diorama/dioramalaw02.VecNames", spec := "vecNames", apart := false }
def VecNamesSaid : Prop := vecNamesRow.holds Try.pinned (OpenSpec.ofChange vecNamesSpec)

/-- ITS FALSE NEIGHBOUR: 'it returns false'. Refute it at one input. -/
def vecNamesWrong : ChangeSpec := { name := "vecNames", fn := fun _ => fun
  | [] => { results := [.lit (.bool false)], args := [] }
  | _ => none }
def VecNamesWrongFalsely : Prop := vecNamesRow.holds Try.pinned (OpenSpec.ofChange vecNamesWrong)

/-- 'dioramalaw02.VecMoves': WHATEVER THE INPUT: true; the input reads as it did. -/
def vecMovesSpec : ChangeSpec := { name := "vecMoves", fn := fun _ => fun
  | [d1, d2] => { results := [.lit (.bool true)], args := [d1, d2] }
  | _ => none }
def vecMovesRow : OpenClaim := { program := "ytokammhfkmgjeaa", sum := "16c9a90fa22cef592d543a04c99193d8992fd14333f559b45d48753e1ab341ac", func := "diorama/dioramalaw02.VecMoves", spec := "vecMoves", apart := false }
def VecMovesSaid : Prop := vecMovesRow.holds Try.pinned (OpenSpec.ofChange vecMovesSpec)

/-- ITS FALSE NEIGHBOUR: 'it returns false'. Refute it at one input. -/
def vecMovesWrong : ChangeSpec := { name := "vecMoves", fn := fun _ => fun
  | [d1, d2] => { results := [.lit (.bool false)], args := [d1, d2] }
  | _ => none }
def VecMovesWrongFalsely : Prop := vecMovesRow.holds Try.pinned (OpenSpec.ofChange vecMovesWrong)

/-- 'dioramalaw02.VecMuls': WHATEVER THE INPUT: true; the input reads as it did. -/
def vecMulsSpec : ChangeSpec := { name := "vecMuls", fn := fun _ => fun
  | [d1, d2] => { results := [.lit (.bool true)], args := [d1, d2] }
  | _ => none }
def vecMulsRow : OpenClaim := { program := "ytokammhfkmgjeaa", sum := "16c9a90fa22cef592d543a04c99193d8992fd14333f559b45d48753e1ab341ac", func := "diorama/dioramalaw02.VecMuls", spec := "vecMuls", apart := false }
def VecMulsSaid : Prop := vecMulsRow.holds Try.pinned (OpenSpec.ofChange vecMulsSpec)

/-- ITS FALSE NEIGHBOUR: 'it returns false'. Refute it at one input. -/
def vecMulsWrong : ChangeSpec := { name := "vecMuls", fn := fun _ => fun
  | [d1, d2] => { results := [.lit (.bool false)], args := [d1, d2] }
  | _ => none }
def VecMulsWrongFalsely : Prop := vecMulsRow.holds Try.pinned (OpenSpec.ofChange vecMulsWrong)

/-- 'dioramalaw02.VecUnit': WHATEVER THE INPUT: true; the input reads as it did. -/
def vecUnitSpec : ChangeSpec := { name := "vecUnit", fn := fun _ => fun
  | [d1, d2] => { results := [.lit (.bool true)], args := [d1, d2] }
  | _ => none }
def vecUnitRow : OpenClaim := { program := "ytokammhfkmgjeaa", sum := "16c9a90fa22cef592d543a04c99193d8992fd14333f559b45d48753e1ab341ac", func := "diorama/dioramalaw02.VecUnit", spec := "vecUnit", apart := false }
def VecUnitSaid : Prop := vecUnitRow.holds Try.pinned (OpenSpec.ofChange vecUnitSpec)

/-- ITS FALSE NEIGHBOUR: 'it returns false'. Refute it at one input. -/
def vecUnitWrong : ChangeSpec := { name := "vecUnit", fn := fun _ => fun
  | [d1, d2] => { results := [.lit (.bool false)], args := [d1, d2] }
  | _ => none }
def VecUnitWrongFalsely : Prop := vecUnitRow.holds Try.pinned (OpenSpec.ofChange vecUnitWrong)

/-- 'dioramalaw02.VecRounds': WHATEVER THE INPUT: true; the input reads as it did. -/
def vecRoundsSpec : ChangeSpec := { name := "vecRounds", fn := fun _ => fun
  | [d1, d2] => { results := [.lit (.bool true)], args := [d1, d2] }
  | _ => none }
def vecRoundsRow : OpenClaim := { program := "ytokammhfkmgjeaa", sum := "16c9a90fa22cef592d543a04c99193d8992fd14333f559b45d48753e1ab341ac", func := "diorama/dioramalaw02.VecRounds", spec := "vecRounds", apart := false }
def VecRoundsSaid : Prop := vecRoundsRow.holds Try.pinned (OpenSpec.ofChange vecRoundsSpec)

/-- ITS FALSE NEIGHBOUR: 'it returns false'. Refute it at one input. -/
def vecRoundsWrong : ChangeSpec := { name := "vecRounds", fn := fun _ => fun
  | [d1, d2] => { results := [.lit (.bool false)], args := [d1, d2] }
  | _ => none }
def VecRoundsWrongFalsely : Prop := vecRoundsRow.holds Try.pinned (OpenSpec.ofChange vecRoundsWrong)

/-- 'dioramalaw02.VecTwice': WHATEVER THE INPUT: true; the input reads as it did. -/
def vecTwiceSpec : ChangeSpec := { name := "vecTwice", fn := fun _ => fun
  | [d1, d2, d3] => { results := [.lit (.bool true)], args := [d1, d2, d3] }
  | _ => none }
def vecTwiceRow : OpenClaim := { program := "ytokammhfkmgjeaa", sum := "16c9a90fa22cef592d543a04c99193d8992fd14333f559b45d48753e1ab341ac", func := "diorama/dioramalaw02.VecTwice", spec := "vecTwice", apart := false }
def VecTwiceSaid : Prop := vecTwiceRow.holds Try.pinned (OpenSpec.ofChange vecTwiceSpec)

/-- ITS FALSE NEIGHBOUR: 'it returns false'. Refute it at one input. -/
def vecTwiceWrong : ChangeSpec := { name := "vecTwice", fn := fun _ => fun
  | [d1, d2, d3] => { results := [.lit (.bool false)], args := [d1, d2, d3] }
  | _ => none }
def VecTwiceWrongFalsely : Prop := vecTwiceRow.holds Try.pinned (OpenSpec.ofChange vecTwiceWrong)

/- THE SECOND FORM. 'bulk': how many values and letters a reading holds, each counted each time it is reached (what is shared counts as often as it is met; a slice's spare places count too). A statement '..UptoSaid' is the law's where the arguments, and the package variables that the reading takes, are together of bulk at most 1048576: NARROWER than '..Said'. Prove '..Said' where nothing that the law and all that it calls make is longer than what came in: it says more and counts as full. Else prove '..UptoSaid'. A law counts once. -/
mutual
def uptoBulk {H : Type} : DataW H → Nat
  | .lit (.string bytes) => bytes.length + 1
  | .lit _ => 1
  | .nil => 1
  | .ptr d => uptoBulk d + 1
  | .slice elems spare => uptoBulkAll elems + uptoBulkAll spare + 1
  | .agg parts => uptoBulkAll parts + 1
  | .iface _ d => uptoBulk d + 1
  | .map entries => uptoBulkEntries entries + 1
  | .held _ => 1
def uptoBulkAll {H : Type} : List (DataW H) → Nat
  | [] => 0
  | d :: r => uptoBulk d + uptoBulkAll r
def uptoBulkEntries {H : Type} : List (Lit × DataW H) → Nat
  | [] => 0
  | x :: r => uptoBulkEntry x + uptoBulkEntries r
def uptoBulkEntry {H : Type} : Lit × DataW H → Nat
  | (.string bytes, d) => bytes.length + uptoBulk d + 1
  | (_, d) => uptoBulk d + 1
 end
def uptoSmall : (H : Type) → List (DataW H) → Bool := fun _ ds => decide (uptoBulkAll ds ≤ 1048576)
def OpenSpec.upto (s : _root_.Go.ChangeSpec) : _root_.Go.OpenSpec := { _root_.Go.OpenSpec.ofChange s with cond := some uptoSmall }

/-- 'dioramalaw02.VecNames', WHERE WHAT IT READS IS OF BULK AT MOST 1048576: true; the input reads as it did. -/
def vecNamesUptoRow : OpenClaim := { program := "ytokammhfkmgjeaa", sum := "16c9a90fa22cef592d543a04c99193d8992fd14333f559b45d48753e1ab341ac", func := "diorama/dioramalaw02.VecNames", spec := "vecNames", apart := false, narrowed := true }
def VecNamesUptoSaid : Prop := vecNamesUptoRow.holds Try.pinned (OpenSpec.upto vecNamesSpec)

/-- 'dioramalaw02.VecMoves', WHERE WHAT IT READS IS OF BULK AT MOST 1048576: true; the input reads as it did. -/
def vecMovesUptoRow : OpenClaim := { program := "ytokammhfkmgjeaa", sum := "16c9a90fa22cef592d543a04c99193d8992fd14333f559b45d48753e1ab341ac", func := "diorama/dioramalaw02.VecMoves", spec := "vecMoves", apart := false, narrowed := true }
def VecMovesUptoSaid : Prop := vecMovesUptoRow.holds Try.pinned (OpenSpec.upto vecMovesSpec)

/-- 'dioramalaw02.VecMuls', WHERE WHAT IT READS IS OF BULK AT MOST 1048576: true; the input reads as it did. -/
def vecMulsUptoRow : OpenClaim := { program := "ytokammhfkmgjeaa", sum := "16c9a90fa22cef592d543a04c99193d8992fd14333f559b45d48753e1ab341ac", func := "diorama/dioramalaw02.VecMuls", spec := "vecMuls", apart := false, narrowed := true }
def VecMulsUptoSaid : Prop := vecMulsUptoRow.holds Try.pinned (OpenSpec.upto vecMulsSpec)

/-- 'dioramalaw02.VecUnit', WHERE WHAT IT READS IS OF BULK AT MOST 1048576: true; the input reads as it did. -/
def vecUnitUptoRow : OpenClaim := { program := "ytokammhfkmgjeaa", sum := "16c9a90fa22cef592d543a04c99193d8992fd14333f559b45d48753e1ab341ac", func := "diorama/dioramalaw02.VecUnit", spec := "vecUnit", apart := false, narrowed := true }
def VecUnitUptoSaid : Prop := vecUnitUptoRow.holds Try.pinned (OpenSpec.upto vecUnitSpec)

/-- 'dioramalaw02.VecRounds', WHERE WHAT IT READS IS OF BULK AT MOST 1048576: true; the input reads as it did. -/
def vecRoundsUptoRow : OpenClaim := { program := "ytokammhfkmgjeaa", sum := "16c9a90fa22cef592d543a04c99193d8992fd14333f559b45d48753e1ab341ac", func := "diorama/dioramalaw02.VecRounds", spec := "vecRounds", apart := false, narrowed := true }
def VecRoundsUptoSaid : Prop := vecRoundsUptoRow.holds Try.pinned (OpenSpec.upto vecRoundsSpec)

/-- 'dioramalaw02.VecTwice', WHERE WHAT IT READS IS OF BULK AT MOST 1048576: true; the input reads as it did. -/
def vecTwiceUptoRow : OpenClaim := { program := "ytokammhfkmgjeaa", sum := "16c9a90fa22cef592d543a04c99193d8992fd14333f559b45d48753e1ab341ac", func := "diorama/dioramalaw02.VecTwice", spec := "vecTwice", apart := false, narrowed := true }
def VecTwiceUptoSaid : Prop := vecTwiceUptoRow.holds Try.pinned (OpenSpec.upto vecTwiceSpec)

end Rows
end Go.Proofs.Ytokammhfkmgjeaa
