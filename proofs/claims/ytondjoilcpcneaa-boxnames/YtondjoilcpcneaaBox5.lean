/- What box.rowsMayBe and turnSide give. -/
import Derived.Test.YtondjoilcpcneaaBox2
import Derived.BigRegion
namespace Go.Proofs.Ytondjoilcpcneaa
open Go.RowKit Go.ChangeShapes Go.WideShapes Go.ChangeAt
set_option linter.unusedSimpArgs false
set_option linter.unusedVariables false
attribute [local go_sem] plus_size plus_drew dn_set dn_alloc dn_plus plus_dn cell_plus frozen_plus set_plus cell_alloc frozen_alloc set_alloc

attribute [local go_sem] ix3_0 ix3_1 ix3_2 ix9_0 ix9_1 ix9_2

set_option maxHeartbeats 4000000 in
theorem rowsMay_calls (a b c d o f g u i : Int) (w : World) :
    Calls Try.prog 28 #[.agg #[.int .i64 a, .int .i64 b, .int .i64 c, .int .i64 d, .int .i64 o, .int .i64 f, .int .i64 g, .int .i64 u, .int .i64 i]] w fun e w' => e = .returned (.bool (all9 ⟨⟨a, b, c⟩, ⟨d, o, f⟩, ⟨g, u, i⟩⟩ 1024)) ∧ Below w.heap.size w w' := by
  rcases within_or a 1024 with ⟨l0, r0, w0⟩ | ⟨l0, w0⟩ | ⟨l0, r0, w0⟩
  rotate_left
  · rw [show all9 ⟨⟨a, b, c⟩, ⟨d, o, f⟩, ⟨g, u, i⟩⟩ 1024 = false by simp [all9, all3, w0]]
    clear w0
    go_enter Try.func28, Try.ntmps28
    go_wp2
    repeat any_goals (first | (rw [rounds_succ]; go_wp2) | refine wp_loop_rounds 4 ?_)
    go_ret
    exact ⟨rfl, by with_reducible repeat (first | exact Below.refl _ _ | apply ba | apply bp | apply bd | apply bn)⟩
  · rw [show all9 ⟨⟨a, b, c⟩, ⟨d, o, f⟩, ⟨g, u, i⟩⟩ 1024 = false by simp [all9, all3, w0]]
    clear w0
    go_enter Try.func28, Try.ntmps28
    go_wp2
    repeat any_goals (first | (rw [rounds_succ]; go_wp2) | refine wp_loop_rounds 4 ?_)
    go_ret
    exact ⟨rfl, by with_reducible repeat (first | exact Below.refl _ _ | apply ba | apply bp | apply bd | apply bn)⟩
  rcases within_or b 1024 with ⟨l1, r1, w1⟩ | ⟨l1, w1⟩ | ⟨l1, r1, w1⟩
  rotate_left
  · rw [show all9 ⟨⟨a, b, c⟩, ⟨d, o, f⟩, ⟨g, u, i⟩⟩ 1024 = false by simp [all9, all3, w1]]
    clear w0 w1
    go_enter Try.func28, Try.ntmps28
    go_wp2
    repeat any_goals (first | (rw [rounds_succ]; go_wp2) | refine wp_loop_rounds 4 ?_)
    go_ret
    exact ⟨rfl, by with_reducible repeat (first | exact Below.refl _ _ | apply ba | apply bp | apply bd | apply bn)⟩
  · rw [show all9 ⟨⟨a, b, c⟩, ⟨d, o, f⟩, ⟨g, u, i⟩⟩ 1024 = false by simp [all9, all3, w1]]
    clear w0 w1
    go_enter Try.func28, Try.ntmps28
    go_wp2
    repeat any_goals (first | (rw [rounds_succ]; go_wp2) | refine wp_loop_rounds 4 ?_)
    go_ret
    exact ⟨rfl, by with_reducible repeat (first | exact Below.refl _ _ | apply ba | apply bp | apply bd | apply bn)⟩
  rcases within_or c 1024 with ⟨l2, r2, w2⟩ | ⟨l2, w2⟩ | ⟨l2, r2, w2⟩
  rotate_left
  · rw [show all9 ⟨⟨a, b, c⟩, ⟨d, o, f⟩, ⟨g, u, i⟩⟩ 1024 = false by simp [all9, all3, w2]]
    clear w0 w1 w2
    go_enter Try.func28, Try.ntmps28
    go_wp2
    repeat any_goals (first | (rw [rounds_succ]; go_wp2) | refine wp_loop_rounds 4 ?_)
    go_ret
    exact ⟨rfl, by with_reducible repeat (first | exact Below.refl _ _ | apply ba | apply bp | apply bd | apply bn)⟩
  · rw [show all9 ⟨⟨a, b, c⟩, ⟨d, o, f⟩, ⟨g, u, i⟩⟩ 1024 = false by simp [all9, all3, w2]]
    clear w0 w1 w2
    go_enter Try.func28, Try.ntmps28
    go_wp2
    repeat any_goals (first | (rw [rounds_succ]; go_wp2) | refine wp_loop_rounds 4 ?_)
    go_ret
    exact ⟨rfl, by with_reducible repeat (first | exact Below.refl _ _ | apply ba | apply bp | apply bd | apply bn)⟩
  rcases within_or d 1024 with ⟨l3, r3, w3⟩ | ⟨l3, w3⟩ | ⟨l3, r3, w3⟩
  rotate_left
  · rw [show all9 ⟨⟨a, b, c⟩, ⟨d, o, f⟩, ⟨g, u, i⟩⟩ 1024 = false by simp [all9, all3, w3]]
    clear w0 w1 w2 w3
    go_enter Try.func28, Try.ntmps28
    go_wp2
    repeat any_goals (first | (rw [rounds_succ]; go_wp2) | refine wp_loop_rounds 4 ?_)
    go_ret
    exact ⟨rfl, by with_reducible repeat (first | exact Below.refl _ _ | apply ba | apply bp | apply bd | apply bn)⟩
  · rw [show all9 ⟨⟨a, b, c⟩, ⟨d, o, f⟩, ⟨g, u, i⟩⟩ 1024 = false by simp [all9, all3, w3]]
    clear w0 w1 w2 w3
    go_enter Try.func28, Try.ntmps28
    go_wp2
    repeat any_goals (first | (rw [rounds_succ]; go_wp2) | refine wp_loop_rounds 4 ?_)
    go_ret
    exact ⟨rfl, by with_reducible repeat (first | exact Below.refl _ _ | apply ba | apply bp | apply bd | apply bn)⟩
  rcases within_or o 1024 with ⟨l4, r4, w4⟩ | ⟨l4, w4⟩ | ⟨l4, r4, w4⟩
  rotate_left
  · rw [show all9 ⟨⟨a, b, c⟩, ⟨d, o, f⟩, ⟨g, u, i⟩⟩ 1024 = false by simp [all9, all3, w4]]
    clear w0 w1 w2 w3 w4
    go_enter Try.func28, Try.ntmps28
    go_wp2
    repeat any_goals (first | (rw [rounds_succ]; go_wp2) | refine wp_loop_rounds 4 ?_)
    go_ret
    exact ⟨rfl, by with_reducible repeat (first | exact Below.refl _ _ | apply ba | apply bp | apply bd | apply bn)⟩
  · rw [show all9 ⟨⟨a, b, c⟩, ⟨d, o, f⟩, ⟨g, u, i⟩⟩ 1024 = false by simp [all9, all3, w4]]
    clear w0 w1 w2 w3 w4
    go_enter Try.func28, Try.ntmps28
    go_wp2
    repeat any_goals (first | (rw [rounds_succ]; go_wp2) | refine wp_loop_rounds 4 ?_)
    go_ret
    exact ⟨rfl, by with_reducible repeat (first | exact Below.refl _ _ | apply ba | apply bp | apply bd | apply bn)⟩
  rcases within_or f 1024 with ⟨l5, r5, w5⟩ | ⟨l5, w5⟩ | ⟨l5, r5, w5⟩
  rotate_left
  · rw [show all9 ⟨⟨a, b, c⟩, ⟨d, o, f⟩, ⟨g, u, i⟩⟩ 1024 = false by simp [all9, all3, w5]]
    clear w0 w1 w2 w3 w4 w5
    go_enter Try.func28, Try.ntmps28
    go_wp2
    repeat any_goals (first | (rw [rounds_succ]; go_wp2) | refine wp_loop_rounds 4 ?_)
    go_ret
    exact ⟨rfl, by with_reducible repeat (first | exact Below.refl _ _ | apply ba | apply bp | apply bd | apply bn)⟩
  · rw [show all9 ⟨⟨a, b, c⟩, ⟨d, o, f⟩, ⟨g, u, i⟩⟩ 1024 = false by simp [all9, all3, w5]]
    clear w0 w1 w2 w3 w4 w5
    go_enter Try.func28, Try.ntmps28
    go_wp2
    repeat any_goals (first | (rw [rounds_succ]; go_wp2) | refine wp_loop_rounds 4 ?_)
    go_ret
    exact ⟨rfl, by with_reducible repeat (first | exact Below.refl _ _ | apply ba | apply bp | apply bd | apply bn)⟩
  rcases within_or g 1024 with ⟨l6, r6, w6⟩ | ⟨l6, w6⟩ | ⟨l6, r6, w6⟩
  rotate_left
  · rw [show all9 ⟨⟨a, b, c⟩, ⟨d, o, f⟩, ⟨g, u, i⟩⟩ 1024 = false by simp [all9, all3, w6]]
    clear w0 w1 w2 w3 w4 w5 w6
    go_enter Try.func28, Try.ntmps28
    go_wp2
    repeat any_goals (first | (rw [rounds_succ]; go_wp2) | refine wp_loop_rounds 4 ?_)
    go_ret
    exact ⟨rfl, by with_reducible repeat (first | exact Below.refl _ _ | apply ba | apply bp | apply bd | apply bn)⟩
  · rw [show all9 ⟨⟨a, b, c⟩, ⟨d, o, f⟩, ⟨g, u, i⟩⟩ 1024 = false by simp [all9, all3, w6]]
    clear w0 w1 w2 w3 w4 w5 w6
    go_enter Try.func28, Try.ntmps28
    go_wp2
    repeat any_goals (first | (rw [rounds_succ]; go_wp2) | refine wp_loop_rounds 4 ?_)
    go_ret
    exact ⟨rfl, by with_reducible repeat (first | exact Below.refl _ _ | apply ba | apply bp | apply bd | apply bn)⟩
  rcases within_or u 1024 with ⟨l7, r7, w7⟩ | ⟨l7, w7⟩ | ⟨l7, r7, w7⟩
  rotate_left
  · rw [show all9 ⟨⟨a, b, c⟩, ⟨d, o, f⟩, ⟨g, u, i⟩⟩ 1024 = false by simp [all9, all3, w7]]
    clear w0 w1 w2 w3 w4 w5 w6 w7
    go_enter Try.func28, Try.ntmps28
    go_wp2
    repeat any_goals (first | (rw [rounds_succ]; go_wp2) | refine wp_loop_rounds 4 ?_)
    go_ret
    exact ⟨rfl, by with_reducible repeat (first | exact Below.refl _ _ | apply ba | apply bp | apply bd | apply bn)⟩
  · rw [show all9 ⟨⟨a, b, c⟩, ⟨d, o, f⟩, ⟨g, u, i⟩⟩ 1024 = false by simp [all9, all3, w7]]
    clear w0 w1 w2 w3 w4 w5 w6 w7
    go_enter Try.func28, Try.ntmps28
    go_wp2
    repeat any_goals (first | (rw [rounds_succ]; go_wp2) | refine wp_loop_rounds 4 ?_)
    go_ret
    exact ⟨rfl, by with_reducible repeat (first | exact Below.refl _ _ | apply ba | apply bp | apply bd | apply bn)⟩
  rcases within_or i 1024 with ⟨l8, r8, w8⟩ | ⟨l8, w8⟩ | ⟨l8, r8, w8⟩
  rotate_left
  · rw [show all9 ⟨⟨a, b, c⟩, ⟨d, o, f⟩, ⟨g, u, i⟩⟩ 1024 = false by simp [all9, all3, w8]]
    clear w0 w1 w2 w3 w4 w5 w6 w7 w8
    go_enter Try.func28, Try.ntmps28
    go_wp2
    repeat any_goals (first | (rw [rounds_succ]; go_wp2) | refine wp_loop_rounds 4 ?_)
    go_ret
    exact ⟨rfl, by with_reducible repeat (first | exact Below.refl _ _ | apply ba | apply bp | apply bd | apply bn)⟩
  · rw [show all9 ⟨⟨a, b, c⟩, ⟨d, o, f⟩, ⟨g, u, i⟩⟩ 1024 = false by simp [all9, all3, w8]]
    clear w0 w1 w2 w3 w4 w5 w6 w7 w8
    go_enter Try.func28, Try.ntmps28
    go_wp2
    repeat any_goals (first | (rw [rounds_succ]; go_wp2) | refine wp_loop_rounds 4 ?_)
    go_ret
    exact ⟨rfl, by with_reducible repeat (first | exact Below.refl _ _ | apply ba | apply bp | apply bd | apply bn)⟩
  rw [show all9 ⟨⟨a, b, c⟩, ⟨d, o, f⟩, ⟨g, u, i⟩⟩ 1024 = true by simp [all9, all3, w0, w1, w2, w3, w4, w5, w6, w7, w8]]
  clear w0 w1 w2 w3 w4 w5 w6 w7 w8
  go_enter Try.func28, Try.ntmps28
  go_wp2
  repeat any_goals (first | (rw [rounds_succ]; go_wp2) | refine wp_loop_rounds 4 ?_)
  go_ret
  exact ⟨rfl, by with_reducible repeat (first | exact Below.refl _ _ | apply ba | apply bp | apply bd | apply bn)⟩

end Go.Proofs.Ytondjoilcpcneaa
