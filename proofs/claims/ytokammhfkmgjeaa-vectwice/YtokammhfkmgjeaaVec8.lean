/- What the statements' own small functions give: of, by, alive. -/
import Derived.Test.YtokammhfkmgjeaaVec5
import Derived.Test.YtokammhfkmgjeaaVecEq
namespace Go.Proofs.Ytokammhfkmgjeaa
open Go.RowKit Go.ChangeShapes Go.WideShapes Go.ChangeAt
set_option linter.unusedSimpArgs false
set_option linter.unusedVariables false
attribute [local go_sem] plus_size plus_drew dn_set dn_alloc dn_plus plus_dn cell_plus frozen_plus set_plus cell_alloc frozen_alloc set_alloc

attribute [local go_sem] ix3_0 ix3_1 ix3_2 ix9_0 ix9_1 ix9_2 eq9L

theorem of_calls (x y z : Int) (w : World) :
    Calls Try.prog 10 #[.int .i64 x, .int .i64 y, .int .i64 z] w fun e w' => e = .returned (.agg #[.int .i64 x, .int .i64 y, .int .i64 z]) ∧ Below w.heap.size w w' := by
  go_enter Try.func10, Try.ntmps10
  go_wp2
  exact bodyPost_ret (v := .agg #[.int .i64 x, .int .i64 y, .int .i64 z]) (by simp [results, Try.results10, go_sem, ↓IntWalk.iteOmega]) rfl ⟨rfl, by with_reducible repeat (first | exact Below.refl _ _ | apply ba | apply bp | apply bd | apply bn)⟩

set_option maxHeartbeats 4000000 in
theorem by_calls (x y z : Int) (w : World) :
    Calls Try.prog 12 #[.int .i64 x, .int .i64 y, .int .i64 z] w fun e w' => e = .returned (.agg #[.int .i64 256, .int .i64 0, .int .i64 0, .int .i64 0, .int .i64 256, .int .i64 0, .int .i64 0, .int .i64 0, .int .i64 256, .int .i64 x, .int .i64 y, .int .i64 z]) ∧ Below w.heap.size w w' := by
  go_enter Try.func12, Try.ntmps12
  go_wp2_with (first | (go_at_call 21; refine (plus_post (unit_calls _)).mono ?_; rintro e w' ⟨rfl, nx, rfl⟩) | (go_at_call 10; refine (plus_post (of_calls _ _ _ _)).mono ?_; rintro e w' ⟨rfl, nx, rfl⟩))
  exact bodyPost_ret (v := .agg #[.int .i64 256, .int .i64 0, .int .i64 0, .int .i64 0, .int .i64 256, .int .i64 0, .int .i64 0, .int .i64 0, .int .i64 256, .int .i64 x, .int .i64 y, .int .i64 z]) (by simp [results, Try.results12, go_sem, ↓IntWalk.iteOmega]) rfl ⟨rfl, by with_reducible repeat (first | exact Below.refl _ _ | apply ba | apply bp | apply bd | apply bn)⟩

set_option maxHeartbeats 4000000 in
theorem alive_calls (w : World) :
    Calls Try.prog 14 #[] w fun e w' => e = .returned (.bool true) ∧ Below w.heap.size w w' := by
  have e1 : image ⟨⟨⟨256, 0, 0⟩, ⟨0, 256, 0⟩, ⟨0, 0, 256⟩⟩, ⟨1, 2, 3⟩⟩ ⟨10, 20, 30⟩ = (⟨11, 22, 33⟩, 0) := by kernel_rfl
  go_enter Try.func14, Try.ntmps14
  go_wp2_with (first | (go_at_call 10; refine (plus_post (of_calls _ _ _ _)).mono ?_; rintro e w' ⟨rfl, nx, rfl⟩) | (go_at_call 12; refine (plus_post (by_calls _ _ _ _)).mono ?_; rintro e w' ⟨rfl, nx, rfl⟩) | (go_at_call 13; refine (plus_post (image_calls _ _ _ _ _ _ _ _ _ _ _ _ _ _ _ _)).mono ?_; rintro e w' ⟨rfl, nx, rfl⟩))
  refine region_plus (by kernel_rfl) (by kernel_rfl) ?_
  (repeat (go_big_quiet_step ((go_at_call 10; exact plus_of (of_calls _ _ _ _)))))
  refine wpQuiet_nil ?_
  rintro _ ⟨x2, rfl⟩
  go_wp2
  go_ret
  exact ⟨rfl, by with_reducible repeat (first | exact Below.refl _ _ | apply ba | apply bp | apply bd | apply bn)⟩

end Go.Proofs.Ytokammhfkmgjeaa
