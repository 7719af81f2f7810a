/- A world by a name, of which cells are told. -/
import Derived.Test.YthcplebmffbmpaaExt
namespace Go.Proofs.Ythcplebmffbmpaa
open Go.RowKit Go.ChangeShapes Go.WideShapes Go.ChangeAt
set_option linter.unusedSimpArgs false
set_option linter.unusedVariables false
attribute [local go_sem] plus_size plus_drew dn_set dn_alloc dn_plus plus_dn cell_plus frozen_plus set_plus cell_alloc frozen_alloc set_alloc

theorem st_world {α : Type} {F : α → World → Prop} {a : α} {w : World} (p : World → Prop) (hp : p w) (h : ∀ w', p w' → F a w') : F a w := h w hp
theorem st_below {w T W : World} (hT : ∃ y, T = plus w y) (hW : ∃ x, W = plus T x) : Below w.heap.size w W := by
  obtain ⟨y, rfl⟩ := hT
  obtain ⟨x, rfl⟩ := hW
  exact bp (bp (Below.refl _ _))
/-- a fact that the walk does not see -/
structure Hid (p : Prop) : Prop where
  out : p

end Go.Proofs.Ythcplebmffbmpaa
