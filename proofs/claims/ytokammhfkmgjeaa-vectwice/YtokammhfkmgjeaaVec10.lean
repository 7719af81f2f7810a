/- What the statements' own 'times' gives. -/
import Derived.Test.YtokammhfkmgjeaaFresh
import Derived.Test.YtokammhfkmgjeaaVec4
namespace Go.Proofs.Ytokammhfkmgjeaa
open Go.RowKit Go.ChangeShapes Go.WideShapes Go.ChangeAt
set_option linter.unusedSimpArgs false
set_option linter.unusedVariables false
attribute [local go_sem] plus_size plus_drew dn_set dn_alloc dn_plus plus_dn cell_plus frozen_plus set_plus cell_alloc frozen_alloc set_alloc

attribute [local go_sem] ix3_0 ix3_1 ix3_2 ix9_0 ix9_1 ix9_2

/-- brought from -4 to 4 -/
def mx (n : Int) : Int := if n < -4 then -4 else n
def cl (n : Int) : Int := if 4 < if n < -4 then -4 else n then 4 else if n < -4 then -4 else n
theorem mxE (n : Int) : (if n < -4 then -4 else n) = mx n := rfl
theorem clE (n : Int) : (if 4 < if n < -4 then -4 else n then 4 else if n < -4 then -4 else n) = cl n := rfl

set_option maxHeartbeats 4000000 in
theorem times_calls (a b c d o f g u i p q r : Int) (w : World) :
    Calls Try.prog 25 #[.agg #[.int .i64 a, .int .i64 b, .int .i64 c, .int .i64 d, .int .i64 o, .int .i64 f, .int .i64 g, .int .i64 u, .int .i64 i, .int .i64 p, .int .i64 q, .int .i64 r]] w fun e w' => e = .returned (.agg #[.int .i64 (cl a * 256), .int .i64 (cl b * 256), .int .i64 (cl c * 256), .int .i64 (cl d * 256), .int .i64 (cl o * 256), .int .i64 (cl f * 256), .int .i64 (cl g * 256), .int .i64 (cl u * 256), .int .i64 (cl i * 256), .int .i64 p, .int .i64 q, .int .i64 r]) ∧ Below w.heap.size w w' := by
  go_enter Try.func25, Try.ntmps25
  go_wp2
  refine wp_loop_rounds 4 ?_
  refine soak ((w.alloc (.cells #[.int .i64 a, .int .i64 b, .int .i64 c, .int .i64 d, .int .i64 o, .int .i64 f, .int .i64 g, .int .i64 u, .int .i64 i, .int .i64 p, .int .i64 q, .int .i64 r] 31)).alloc (.cells #[.int .i64 0, .int .i64 0, .int .i64 0, .int .i64 0, .int .i64 0, .int .i64 0, .int .i64 0, .int .i64 0, .int .i64 0, .int .i64 0, .int .i64 0, .int .i64 0] 31)) (by with_reducible repeat (first | exact ex_refl _ | apply ex_alloc | apply ex_plus | apply ex_drew | apply ex_drewN)) (fun y0 => ?_)
  rw [rounds_succ]
  go_wp2
  refine wp_loop_rounds 4 ?_
  rw [rounds_succ]
  go_wp2
  refine region_tail 14 (by kernel_rfl) (by kernel_rfl) ?_
  simp only [List.take_succ_cons, List.take_zero, List.drop_succ_cons, List.drop_zero]
  (repeat (go_big_quiet_step (fail)))
  refine wpQuiet_nil ?_
  rintro _ ⟨x2, rfl⟩
  simp only [clE]
  simp only [mxE]
  go_wp2
  refine soak ((w.alloc (.cells #[.int .i64 (cl a * 256), .int .i64 b, .int .i64 c, .int .i64 d, .int .i64 o, .int .i64 f, .int .i64 g, .int .i64 u, .int .i64 i, .int .i64 p, .int .i64 q, .int .i64 r] 31)).alloc (.cells #[.int .i64 0, .int .i64 0, .int .i64 0, .int .i64 0, .int .i64 0, .int .i64 0, .int .i64 0, .int .i64 0, .int .i64 0, .int .i64 0, .int .i64 0, .int .i64 0] 31)) (by with_reducible repeat (first | exact ex_refl _ | apply ex_alloc | apply ex_plus | apply ex_drew | apply ex_drewN)) (fun y0 => ?_)
  rw [rounds_succ]
  go_wp2
  refine region_tail 14 (by kernel_rfl) (by kernel_rfl) ?_
  simp only [List.take_succ_cons, List.take_zero, List.drop_succ_cons, List.drop_zero]
  (repeat (go_big_quiet_step (fail)))
  refine wpQuiet_nil ?_
  rintro _ ⟨x2, rfl⟩
  simp only [clE]
  simp only [mxE]
  go_wp2
  refine soak ((w.alloc (.cells #[.int .i64 (cl a * 256), .int .i64 (cl b * 256), .int .i64 c, .int .i64 d, .int .i64 o, .int .i64 f, .int .i64 g, .int .i64 u, .int .i64 i, .int .i64 p, .int .i64 q, .int .i64 r] 31)).alloc (.cells #[.int .i64 0, .int .i64 0, .int .i64 0, .int .i64 0, .int .i64 0, .int .i64 0, .int .i64 0, .int .i64 0, .int .i64 0, .int .i64 0, .int .i64 0, .int .i64 0] 31)) (by with_reducible repeat (first | exact ex_refl _ | apply ex_alloc | apply ex_plus | apply ex_drew | apply ex_drewN)) (fun y0 => ?_)
  rw [rounds_succ]
  go_wp2
  refine region_tail 14 (by kernel_rfl) (by kernel_rfl) ?_
  simp only [List.take_succ_cons, List.take_zero, List.drop_succ_cons, List.drop_zero]
  (repeat (go_big_quiet_step (fail)))
  refine wpQuiet_nil ?_
  rintro _ ⟨x2, rfl⟩
  simp only [clE]
  simp only [mxE]
  go_wp2
  refine soak ((w.alloc (.cells #[.int .i64 (cl a * 256), .int .i64 (cl b * 256), .int .i64 (cl c * 256), .int .i64 d, .int .i64 o, .int .i64 f, .int .i64 g, .int .i64 u, .int .i64 i, .int .i64 p, .int .i64 q, .int .i64 r] 31)).alloc (.cells #[.int .i64 0, .int .i64 0, .int .i64 0, .int .i64 0, .int .i64 0, .int .i64 0, .int .i64 0, .int .i64 0, .int .i64 0, .int .i64 0, .int .i64 0, .int .i64 0] 31)) (by with_reducible repeat (first | exact ex_refl _ | apply ex_alloc | apply ex_plus | apply ex_drew | apply ex_drewN)) (fun y0 => ?_)
  rw [rounds_succ]
  go_wp2
  rw [rounds_succ]
  go_wp2
  refine wp_loop_rounds 4 ?_
  rw [rounds_succ]
  go_wp2
  refine region_tail 14 (by kernel_rfl) (by kernel_rfl) ?_
  simp only [List.take_succ_cons, List.take_zero, List.drop_succ_cons, List.drop_zero]
  (repeat (go_big_quiet_step (fail)))
  refine wpQuiet_nil ?_
  rintro _ ⟨x2, rfl⟩
  simp only [clE]
  simp only [mxE]
  go_wp2
  refine soak ((w.alloc (.cells #[.int .i64 (cl a * 256), .int .i64 (cl b * 256), .int .i64 (cl c * 256), .int .i64 (cl d * 256), .int .i64 o, .int .i64 f, .int .i64 g, .int .i64 u, .int .i64 i, .int .i64 p, .int .i64 q, .int .i64 r] 31)).alloc (.cells #[.int .i64 0, .int .i64 0, .int .i64 0, .int .i64 0, .int .i64 0, .int .i64 0, .int .i64 0, .int .i64 0, .int .i64 0, .int .i64 0, .int .i64 0, .int .i64 0] 31)) (by with_reducible repeat (first | exact ex_refl _ | apply ex_alloc | apply ex_plus | apply ex_drew | apply ex_drewN)) (fun y0 => ?_)
  rw [rounds_succ]
  go_wp2
  refine region_tail 14 (by kernel_rfl) (by kernel_rfl) ?_
  simp only [List.take_succ_cons, List.take_zero, List.drop_succ_cons, List.drop_zero]
  (repeat (go_big_quiet_step (fail)))
  refine wpQuiet_nil ?_
  rintro _ ⟨x2, rfl⟩
  simp only [clE]
  simp only [mxE]
  go_wp2
  refine soak ((w.alloc (.cells #[.int .i64 (cl a * 256), .int .i64 (cl b * 256), .int .i64 (cl c * 256), .int .i64 (cl d * 256), .int .i64 (cl o * 256), .int .i64 f, .int .i64 g, .int .i64 u, .int .i64 i, .int .i64 p, .int .i64 q, .int .i64 r] 31)).alloc (.cells #[.int .i64 0, .int .i64 0, .int .i64 0, .int .i64 0, .int .i64 0, .int .i64 0, .int .i64 0, .int .i64 0, .int .i64 0, .int .i64 0, .int .i64 0, .int .i64 0] 31)) (by with_reducible repeat (first | exact ex_refl _ | apply ex_alloc | apply ex_plus | apply ex_drew | apply ex_drewN)) (fun y0 => ?_)
  rw [rounds_succ]
  go_wp2
  refine region_tail 14 (by kernel_rfl) (by kernel_rfl) ?_
  simp only [List.take_succ_cons, List.take_zero, List.drop_succ_cons, List.drop_zero]
  (repeat (go_big_quiet_step (fail)))
  refine wpQuiet_nil ?_
  rintro _ ⟨x2, rfl⟩
  simp only [clE]
  simp only [mxE]
  go_wp2
  refine soak ((w.alloc (.cells #[.int .i64 (cl a * 256), .int .i64 (cl b * 256), .int .i64 (cl c * 256), .int .i64 (cl d * 256), .int .i64 (cl o * 256), .int .i64 (cl f * 256), .int .i64 g, .int .i64 u, .int .i64 i, .int .i64 p, .int .i64 q, .int .i64 r] 31)).alloc (.cells #[.int .i64 0, .int .i64 0, .int .i64 0, .int .i64 0, .int .i64 0, .int .i64 0, .int .i64 0, .int .i64 0, .int .i64 0, .int .i64 0, .int .i64 0, .int .i64 0] 31)) (by with_reducible repeat (first | exact ex_refl _ | apply ex_alloc | apply ex_plus | apply ex_drew | apply ex_drewN)) (fun y0 => ?_)
  rw [rounds_succ]
  go_wp2
  rw [rounds_succ]
  go_wp2
  refine wp_loop_rounds 4 ?_
  rw [rounds_succ]
  go_wp2
  refine region_tail 14 (by kernel_rfl) (by kernel_rfl) ?_
  simp only [List.take_succ_cons, List.take_zero, List.drop_succ_cons, List.drop_zero]
  (repeat (go_big_quiet_step (fail)))
  refine wpQuiet_nil ?_
  rintro _ ⟨x2, rfl⟩
  simp only [clE]
  simp only [mxE]
  go_wp2
  refine soak ((w.alloc (.cells #[.int .i64 (cl a * 256), .int .i64 (cl b * 256), .int .i64 (cl c * 256), .int .i64 (cl d * 256), .int .i64 (cl o * 256), .int .i64 (cl f * 256), .int .i64 (cl g * 256), .int .i64 u, .int .i64 i, .int .i64 p, .int .i64 q, .int .i64 r] 31)).alloc (.cells #[.int .i64 0, .int .i64 0, .int .i64 0, .int .i64 0, .int .i64 0, .int .i64 0, .int .i64 0, .int .i64 0, .int .i64 0, .int .i64 0, .int .i64 0, .int .i64 0] 31)) (by with_reducible repeat (first | exact ex_refl _ | apply ex_alloc | apply ex_plus | apply ex_drew | apply ex_drewN)) (fun y0 => ?_)
  rw [rounds_succ]
  go_wp2
  refine region_tail 14 (by kernel_rfl) (by kernel_rfl) ?_
  simp only [List.take_succ_cons, List.take_zero, List.drop_succ_cons, List.drop_zero]
  (repeat (go_big_quiet_step (fail)))
  refine wpQuiet_nil ?_
  rintro _ ⟨x2, rfl⟩
  simp only [clE]
  simp only [mxE]
  go_wp2
  refine soak ((w.alloc (.cells #[.int .i64 (cl a * 256), .int .i64 (cl b * 256), .int .i64 (cl c * 256), .int .i64 (cl d * 256), .int .i64 (cl o * 256), .int .i64 (cl f * 256), .int .i64 (cl g * 256), .int .i64 (cl u * 256), .int .i64 i, .int .i64 p, .int .i64 q, .int .i64 r] 31)).alloc (.cells #[.int .i64 0, .int .i64 0, .int .i64 0, .int .i64 0, .int .i64 0, .int .i64 0, .int .i64 0, .int .i64 0, .int .i64 0, .int .i64 0, .int .i64 0, .int .i64 0] 31)) (by with_reducible repeat (first | exact ex_refl _ | apply ex_alloc | apply ex_plus | apply ex_drew | apply ex_drewN)) (fun y0 => ?_)
  rw [rounds_succ]
  go_wp2
  refine region_tail 14 (by kernel_rfl) (by kernel_rfl) ?_
  simp only [List.take_succ_cons, List.take_zero, List.drop_succ_cons, List.drop_zero]
  (repeat (go_big_quiet_step (fail)))
  refine wpQuiet_nil ?_
  rintro _ ⟨x2, rfl⟩
  simp only [clE]
  simp only [mxE]
  go_wp2
  refine soak ((w.alloc (.cells #[.int .i64 (cl a * 256), .int .i64 (cl b * 256), .int .i64 (cl c * 256), .int .i64 (cl d * 256), .int .i64 (cl o * 256), .int .i64 (cl f * 256), .int .i64 (cl g * 256), .int .i64 (cl u * 256), .int .i64 (cl i * 256), .int .i64 p, .int .i64 q, .int .i64 r] 31)).alloc (.cells #[.int .i64 0, .int .i64 0, .int .i64 0, .int .i64 0, .int .i64 0, .int .i64 0, .int .i64 0, .int .i64 0, .int .i64 0, .int .i64 0, .int .i64 0, .int .i64 0] 31)) (by with_reducible repeat (first | exact ex_refl _ | apply ex_alloc | apply ex_plus | apply ex_drew | apply ex_drewN)) (fun y0 => ?_)
  rw [rounds_succ]
  go_wp2
  rw [rounds_succ]
  go_wp2
  exact bodyPost_ret (v := .agg #[.int .i64 (cl a * 256), .int .i64 (cl b * 256), .int .i64 (cl c * 256), .int .i64 (cl d * 256), .int .i64 (cl o * 256), .int .i64 (cl f * 256), .int .i64 (cl g * 256), .int .i64 (cl u * 256), .int .i64 (cl i * 256), .int .i64 p, .int .i64 q, .int .i64 r]) (by simp [results, Try.results25, go_sem, ↓IntWalk.iteOmega]) rfl ⟨rfl, by with_reducible repeat (first | exact Below.refl _ _ | apply ba | apply bp | apply bd | apply bn)⟩

end Go.Proofs.Ytokammhfkmgjeaa
