/- What the functions of package fixed, and the document's own of dioramaref01, give: one contract a function. -/
import Derived.Test.YtokammhfkmgjeaaChecked
import Derived.Test.YtokammhfkmgjeaaExt
import Derived.Test.YtokammhfkmgjeaaFixedMath
namespace Go.Proofs.Ytokammhfkmgjeaa
open Go.RowKit
set_option linter.unusedSimpArgs false
attribute [local go_sem] plus_size plus_drew dn_set dn_alloc dn_plus plus_dn cell_plus frozen_plus set_plus cell_alloc frozen_alloc set_alloc

theorem ret_int {k : IntKind} {a b : Int} (h : a = b) : Ending.returned (.int k a) = .returned (.int k b) := by rw [h]

theorem down_calls (a b : Int) (ha : -9223372036854775808 ≤ a) (ha2 : a ≤ 9223372036854775807) (hb : 1 ≤ b) (w : World) :
    Calls Try.prog 37 #[.int .i64 a, .int .i64 b] w fun e w' => e = .returned (.int .i64 (a / b)) ∧ Below w.heap.size w w' := by
  have hd := (tdiv_bd hb ha ha2).1
  go_enter Try.func37, Try.ntmps37
  go_wp2
  go_quiet (fail)
  go_wp2
  · go_ret
    rename_i hm
    refine ⟨ret_int ?_, ⟨rfl, rfl, rfl, Nat.le_refl _, fun _ _ => rfl⟩⟩
    exact tmod_lt hb hm
  · go_ret
    rename_i hm
    exact ⟨ret_int (tmod_ge hb hm), ⟨rfl, rfl, rfl, Nat.le_refl _, fun _ _ => rfl⟩⟩

def flo (a b : Int) : Int × Int := if 1 ≤ b then (a / b, 0) else (0, 2)
def cei (a b : Int) : Int × Int := if 1 ≤ b then (up a b, 0) else (0, 2)

theorem floor_calls (a b : Int) (ha : -9223372036854775808 ≤ a) (ha2 : a ≤ 9223372036854775807) (w : World) :
    Calls Try.prog 24 #[.int .i64 a, .int .i64 b] w fun e w' => e = .returned (.tuple #[.int .i64 (flo a b).1, .int .i64 (flo a b).2]) ∧ Below w.heap.size w w' := by
  by_cases hb : 1 ≤ b
  · rw [show flo a b = (a / b, 0) from if_pos hb]
    go_enter Try.func24, Try.ntmps24
    go_wp2_with (go_at_call 37; refine (plus_post (down_calls a b ha ha2 hb _)).mono ?_; rintro e w' ⟨rfl, x, rfl⟩)
    go_ret2
    exact ⟨rfl, plus_below _ _⟩
  · rw [show flo a b = (0, 2) from if_neg hb]
    go_enter Try.func24, Try.ntmps24
    go_wp2
    go_ret2
    exact ⟨rfl, Below.refl _ _⟩

end Go.Proofs.Ytokammhfkmgjeaa
