/-
  No cell of these rows narrows 'for every input' (looked for: loops, veiled, ifaces, maps, wideKeys, modest, calm, conditions, laid).
  DERIVED. THE GIVEN ROWS OF THIS SEAT. 4 by the template 'for every input the law returns true; each argument reads behind the call as it read before'; 0 by the template 'total and deterministic' (their statements: YtimmbpcoagjcbaaTotals.lean).
  GIVEN WITH THE SEED: the statements are not yours to turn. If you find one false, say at which input.
  Laid BY PROGRAM, IN A SANDBOX (cutbox-rows.mjs): the forced cells as the released guide's own fill.sh prints them over the translation 11ed43da70f71589… (all of the seat's roots in one cut). By AI agents, Wed Nov 11 2026. No macro, syntax, notation, axiom, sorry.
-/
import Derived.Test.YtimmbpcoagjcbaaChecked
import GoSem.Claim
import GoSem.ClaimJoined
import GoSem.ClaimMapViews
import Derived.JoinedTies
import Derived.KernelRfl
namespace Go.Proofs.Ytimmbpcoagjcbaa
/- THE CELL 'sum', in the pinned program and in every row, IS THE sha256 OF THE DUMP (.gsa) THAT YtimmbpcoagjcbaaProg.lean LOADS. Nothing in Lean hashes anything: it is a label: what it is worth is what the hold of that sum in a sandbox is worth. -/
noncomputable def Try.pinned : Pinned := { name := "ytimmbpcoagjcbaa", sum := "11ed43da70f715892e1f1a1f23480578162d0c2f74abefe09d9e2fe18980bb5d", checked := Try.checked }
namespace Rows
def none {H : Type} : Left H := { results := [], args := [] }

/-- 'dioramalaw09.TextureNames': WHATEVER THE INPUT: true; the input reads as it did. -/
def textureNamesSpec : ChangeSpec := { name := "textureNames", fn := fun _ => fun
  | [] => { results := [.lit (.bool true)], args := [] }
  | _ => none }
def textureNamesRow : OpenClaim := { program := "ytimmbpcoagjcbaa", sum := "11ed43da70f715892e1f1a1f23480578162d0c2f74abefe09d9e2fe18980bb5d", func := "diorama/dioramalaw09.TextureNames", spec := "textureNames", apart := false }
def TextureNamesSaid : Prop := textureNamesRow.holds Try.pinned (OpenSpec.ofChange textureNamesSpec)

/-- ITS FALSE NEIGHBOUR: 'it returns false'. Refute it at one input. -/
def textureNamesWrong : ChangeSpec := { name := "textureNames", fn := fun _ => fun
  | [] => { results := [.lit (.bool false)], args := [] }
  | _ => none }
def TextureNamesWrongFalsely : Prop := textureNamesRow.holds Try.pinned (OpenSpec.ofChange textureNamesWrong)

/-- 'dioramalaw09.TextureTells': WHATEVER THE INPUT: true; the input reads as it did. -/
def textureTellsSpec : ChangeSpec := { name := "textureTells", fn := fun _ => fun
  | [d1, d2, d3, d4] => { results := [.lit (.bool true)], args := [d1, d2, d3, d4] }
  | _ => none }
def textureTellsRow : OpenClaim := { program := "ytimmbpcoagjcbaa", sum := "11ed43da70f715892e1f1a1f23480578162d0c2f74abefe09d9e2fe18980bb5d", func := "diorama/dioramalaw09.TextureTells", spec := "textureTells", apart := false }
def TextureTellsSaid : Prop := textureTellsRow.holds Try.pinned (OpenSpec.ofChange textureTellsSpec)

/-- ITS FALSE NEIGHBOUR: 'it returns false'. Refute it at one input. -/
def textureTellsWrong : ChangeSpec := { name := "textureTells", fn := fun _ => fun
  | [d1, d2, d3, d4] => { results := [.lit (.bool false)], args := [d1, d2, d3, d4] }
  | _ => none }
def TextureTellsWrongFalsely : Prop := textureTellsRow.holds Try.pinned (OpenSpec.ofChange textureTellsWrong)

/-- 'dioramalaw09.TextureEach': WHATEVER THE INPUT: true; the input reads as it did. -/
def textureEachSpec : ChangeSpec := { name := "textureEach", fn := fun _ => fun
  | [d1, d2, d3] => { results := [.lit (.bool true)], args := [d1, d2, d3] }
  | _ => none }
def textureEachRow : OpenClaim := { program := "ytimmbpcoagjcbaa", sum := "11ed43da70f715892e1f1a1f23480578162d0c2f74abefe09d9e2fe18980bb5d", func := "diorama/dioramalaw09.TextureEach", spec := "textureEach", apart := false }
def TextureEachSaid : Prop := textureEachRow.holds Try.pinned (OpenSpec.ofChange textureEachSpec)

/-- ITS FALSE NEIGHBOUR: 'it returns false'. Refute it at one input. -/
def textureEachWrong : ChangeSpec := { name := "textureEach", fn := fun _ => fun
  | [d1, d2, d3] => { results := [.lit (.bool false)], args := [d1, d2, d3] }
  | _ => none }
def TextureEachWrongFalsely : Prop := textureEachRow.holds Try.pinned (OpenSpec.ofChange textureEachWrong)

/-- 'dioramalaw09.TextureSteps': WHATEVER THE INPUT: true; the input reads as it did. -/
def textureStepsSpec : ChangeSpec := { name := "textureSteps", fn := fun _ => fun
  | [d1, d2, d3, d4, d5, d6] => { results := [.lit (.bool true)], args := [d1, d2, d3, d4, d5, d6] }
  | _ => none }
def textureStepsRow : OpenClaim := { program := "ytimmbpcoagjcbaa", sum := "11ed43da70f715892e1f1a1f23480578162d0c2f74abefe09d9e2fe18980bb5d", func := "diorama/dioramalaw09.TextureSteps", spec := "textureSteps", apart := false }
def TextureStepsSaid : Prop := textureStepsRow.holds Try.pinned (OpenSpec.ofChange textureStepsSpec)

/-- ITS FALSE NEIGHBOUR: 'it returns false'. Refute it at one input. -/
def textureStepsWrong : ChangeSpec := { name := "textureSteps", fn := fun _ => fun
  | [d1, d2, d3, d4, d5, d6] => { results := [.lit (.bool false)], args := [d1, d2, d3, d4, d5, d6] }
  | _ => none }
def TextureStepsWrongFalsely : Prop := textureStepsRow.holds Try.pinned (OpenSpec.ofChange textureStepsWrong)

/- THE SECOND FORM. 'bulk': how many values and letters a reading holds, each counted each time it is reached (what is shared counts as often as it is met; a slice's spare places count too). A statement '..UptoSaid' is the law's where the arguments, and the package variables that the reading takes, are together of bulk at most 1048576: NARROWER than '..Said'. Prove '..Said' where nothing that the law and all that it calls make is longer than what came in: it says more and counts as full. Else prove '..UptoSaid'. A law counts once. -/
mutual
def uptoBulk {H : Type} : DataW H → Nat
  | .lit (.string bytes) => bytes.length + 1
  | .lit _ => 1
  | .nil => 1
  | .ptr d => uptoBulk d + 1
  | .slice elems spare => uptoBulkAll elems + uptoBulkAll spare + 1
  | .agg parts => uptoBulkAll parts + 1
  | .iface _ d => uptoBulk d + 1
  | .map entries => uptoBulkEntries entries + 1
  | .held _ => 1
def uptoBulkAll {H : Type} : List (DataW H) → Nat
  | [] => 0
  | d :: r => uptoBulk d + uptoBulkAll r
def uptoBulkEntries {H : Type} : List (Lit × DataW H) → Nat
  | [] => 0
  | x :: r => uptoBulkEntry x + uptoBulkEntries r
def uptoBulkEntry {H : Type} : Lit × DataW H → Nat
  | (.string bytes, d) => bytes.length + uptoBulk d + 1
  | (_, d) => uptoBulk d + 1
 end
def uptoSmall : (H : Type) → List (DataW H) → Bool := fun _ ds => decide (uptoBulkAll ds ≤ 1048576)
def OpenSpec.upto (s : _root_.Go.ChangeSpec) : _root_.Go.OpenSpec := { _root_.Go.OpenSpec.ofChange s with cond := some uptoSmall }

/-- 'dioramalaw09.TextureNames', WHERE WHAT IT READS IS OF BULK AT MOST 1048576: true; the input reads as it did. -/
def textureNamesUptoRow : OpenClaim := { program := "ytimmbpcoagjcbaa", sum := "11ed43da70f715892e1f1a1f23480578162d0c2f74abefe09d9e2fe18980bb5d", func := "diorama/dioramalaw09.TextureNames", spec := "textureNames", apart := false, narrowed := true }
def TextureNamesUptoSaid : Prop := textureNamesUptoRow.holds Try.pinned (OpenSpec.upto textureNamesSpec)

/-- 'dioramalaw09.TextureTells', WHERE WHAT IT READS IS OF BULK AT MOST 1048576: true; the input reads as it did. -/
def textureTellsUptoRow : OpenClaim := { program := "ytimmbpcoagjcbaa", sum := "11ed43da70f715892e1f1a1f23480578162d0c2f74abefe09d9e2fe18980bb5d", func := "diorama/dioramalaw09.TextureTells", spec := "textureTells", apart := false, narrowed := true }
def TextureTellsUptoSaid : Prop := textureTellsUptoRow.holds Try.pinned (OpenSpec.upto textureTellsSpec)

/-- 'dioramalaw09.TextureEach', WHERE WHAT IT READS IS OF BULK AT MOST 1048576: true; the input reads as it did. -/
def textureEachUptoRow : OpenClaim := { program := "ytimmbpcoagjcbaa", sum := "11ed43da70f715892e1f1a1f23480578162d0c2f74abefe09d9e2fe18980bb5d", func := "diorama/dioramalaw09.TextureEach", spec := "textureEach", apart := false, narrowed := true }
def TextureEachUptoSaid : Prop := textureEachUptoRow.holds Try.pinned (OpenSpec.upto textureEachSpec)

/-- 'dioramalaw09.TextureSteps', WHERE WHAT IT READS IS OF BULK AT MOST 1048576: true; the input reads as it did. -/
def textureStepsUptoRow : OpenClaim := { program := "ytimmbpcoagjcbaa", sum := "11ed43da70f715892e1f1a1f23480578162d0c2f74abefe09d9e2fe18980bb5d", func := "diorama/dioramalaw09.TextureSteps", spec := "textureSteps", apart := false, narrowed := true }
def TextureStepsUptoSaid : Prop := textureStepsUptoRow.holds Try.pinned (OpenSpec.upto textureStepsSpec)

end Rows
end Go.Proofs.Ytimmbpcoagjcbaa
