/- What the small functions of package vec give: allWithin, numbers, point, rowsWithin, rowBy. -/
import Derived.Test.YtondjoilcpcneaaExt
import Derived.Test.YtondjoilcpcneaaTail
import Derived.Test.YtondjoilcpcneaaVecMath
import Derived.Test.YtondjoilcpcneaaFixed
import Derived.Test.YtondjoilcpcneaaFixed3
import Derived.Handy
namespace Go.Proofs.Ytondjoilcpcneaa
open Go.RowKit Go.ChangeShapes Go.WideShapes Go.ChangeAt
set_option linter.unusedSimpArgs false
set_option linter.unusedVariables false
attribute [local go_sem] plus_size plus_drew dn_set dn_alloc dn_plus plus_dn cell_plus frozen_plus set_plus cell_alloc frozen_alloc set_alloc

@[local go_sem] theorem ix3_0 (a b c : Value) (w : World) : (Instr.index 32 (.agg #[a, b, c]) (.int .i64 0)).run Try.prog w = .ok a w := by kernel_rfl
@[local go_sem] theorem ix3_1 (a b c : Value) (w : World) : (Instr.index 32 (.agg #[a, b, c]) (.int .i64 1)).run Try.prog w = .ok b w := by kernel_rfl
@[local go_sem] theorem ix3_2 (a b c : Value) (w : World) : (Instr.index 32 (.agg #[a, b, c]) (.int .i64 2)).run Try.prog w = .ok c w := by kernel_rfl
@[local go_sem] theorem ix9_0 (a b c d e f g h i : Value) (w : World) : (Instr.index 33 (.agg #[a, b, c, d, e, f, g, h, i]) (.int .i64 0)).run Try.prog w = .ok (.agg #[a, b, c]) w := by kernel_rfl
@[local go_sem] theorem ix9_1 (a b c d e f g h i : Value) (w : World) : (Instr.index 33 (.agg #[a, b, c, d, e, f, g, h, i]) (.int .i64 1)).run Try.prog w = .ok (.agg #[d, e, f]) w := by kernel_rfl
@[local go_sem] theorem ix9_2 (a b c d e f g h i : Value) (w : World) : (Instr.index 33 (.agg #[a, b, c, d, e, f, g, h, i]) (.int .i64 2)).run Try.prog w = .ok (.agg #[g, h, i]) w := by kernel_rfl

theorem allWithin_calls (a b c l : Int) (h0 : 0 ≤ l) (h1 : l ≤ 1000000) (w : World) :
    Calls Try.prog 40 #[.agg #[.int .i64 a, .int .i64 b, .int .i64 c], .int .i64 l] w fun e w' => e = .returned (.bool (all3 ⟨a, b, c⟩ l)) ∧ Below w.heap.size w w' := by
  rcases within_or a l with ⟨a1, a2, a3⟩ | ⟨a1, a3⟩ | ⟨a1, a2, a3⟩
  · rcases within_or b l with ⟨b1, b2, b3⟩ | ⟨b1, b3⟩ | ⟨b1, b2, b3⟩
    · rcases within_or c l with ⟨c1, c2, c3⟩ | ⟨c1, c3⟩ | ⟨c1, c2, c3⟩
      all_goals
        rw [all3, a3, b3, c3]
        clear a3 b3 c3
        go_enter Try.func40, Try.ntmps40
        go_wp2
        go_rounds 4
        go_ret
        exact ⟨rfl, by with_reducible repeat (first | exact Below.refl _ _ | apply ba | apply bp | apply bd | apply bn)⟩
    all_goals
      rw [all3, a3, b3]
      clear a3 b3
      go_enter Try.func40, Try.ntmps40
      go_wp2
      go_rounds 4
      go_ret
      exact ⟨rfl, by with_reducible repeat (first | exact Below.refl _ _ | apply ba | apply bp | apply bd | apply bn)⟩
  all_goals
    rw [all3, a3]
    clear a3
    go_enter Try.func40, Try.ntmps40
    go_wp2
    go_rounds 4
    go_ret
    exact ⟨rfl, by with_reducible repeat (first | exact Below.refl _ _ | apply ba | apply bp | apply bd | apply bn)⟩

theorem numbers_calls (x y z : Int) (w : World) :
    Calls Try.prog 41 #[.agg #[.int .i64 x, .int .i64 y, .int .i64 z]] w fun e w' => e = .returned (.agg #[.int .i64 x, .int .i64 y, .int .i64 z]) ∧ Below w.heap.size w w' := by
  go_enter Try.func41, Try.ntmps41
  go_wp2
  exact bodyPost_ret (v := .agg #[.int .i64 x, .int .i64 y, .int .i64 z]) (by simp [results, Try.results41, go_sem, ↓IntWalk.iteOmega]) rfl ⟨rfl, by with_reducible repeat (first | exact Below.refl _ _ | apply ba | apply bp | apply bd | apply bn)⟩

theorem point_calls (x y z : Int) (w : World) :
    Calls Try.prog 52 #[.agg #[.int .i64 x, .int .i64 y, .int .i64 z]] w fun e w' => e = .returned (.agg #[.int .i64 x, .int .i64 y, .int .i64 z]) ∧ Below w.heap.size w w' := by
  go_enter Try.func52, Try.ntmps52
  go_wp2
  exact bodyPost_ret (v := .agg #[.int .i64 x, .int .i64 y, .int .i64 z]) (by simp [results, Try.results52, go_sem, ↓IntWalk.iteOmega]) rfl ⟨rfl, by with_reducible repeat (first | exact Below.refl _ _ | apply ba | apply bp | apply bd | apply bn)⟩

theorem rowsWithin_calls (a b c d o f g u i l : Int) (h0 : 0 ≤ l) (h1 : l ≤ 1000000) (w : World) :
    Calls Try.prog 39 #[.agg #[.int .i64 a, .int .i64 b, .int .i64 c, .int .i64 d, .int .i64 o, .int .i64 f, .int .i64 g, .int .i64 u, .int .i64 i], .int .i64 l] w fun e w' => e = .returned (.bool (all9 ⟨⟨a, b, c⟩, ⟨d, o, f⟩, ⟨g, u, i⟩⟩ l)) ∧ Below w.heap.size w w' := by
  cases r1 : all3 ⟨a, b, c⟩ l
  · rw [show all9 ⟨⟨a, b, c⟩, ⟨d, o, f⟩, ⟨g, u, i⟩⟩ l = false by simp [all9, r1]]
    go_enter Try.func39, Try.ntmps39
    go_wp2
    refine wp_loop_rounds 4 ?_
    repeat any_goals (rw [rounds_succ]; go_wp2_with (go_at_call 40; refine (plus_post (allWithin_calls _ _ _ _ (by omega) (by omega) _)).mono ?_; rintro e w' ⟨rfl, nx, rfl⟩))
    go_ret
    exact ⟨rfl, by with_reducible repeat (first | exact Below.refl _ _ | apply ba | apply bp | apply bd | apply bn)⟩
  · cases r2 : all3 ⟨d, o, f⟩ l
    · rw [show all9 ⟨⟨a, b, c⟩, ⟨d, o, f⟩, ⟨g, u, i⟩⟩ l = false by simp [all9, r2]]
      go_enter Try.func39, Try.ntmps39
      go_wp2
      refine wp_loop_rounds 4 ?_
      repeat any_goals (rw [rounds_succ]; go_wp2_with (go_at_call 40; refine (plus_post (allWithin_calls _ _ _ _ (by omega) (by omega) _)).mono ?_; rintro e w' ⟨rfl, nx, rfl⟩))
      go_ret
      exact ⟨rfl, by with_reducible repeat (first | exact Below.refl _ _ | apply ba | apply bp | apply bd | apply bn)⟩
    · cases r3 : all3 ⟨g, u, i⟩ l
      · rw [show all9 ⟨⟨a, b, c⟩, ⟨d, o, f⟩, ⟨g, u, i⟩⟩ l = false by simp [all9, r3]]
        go_enter Try.func39, Try.ntmps39
        go_wp2
        refine wp_loop_rounds 4 ?_
        repeat any_goals (rw [rounds_succ]; go_wp2_with (go_at_call 40; refine (plus_post (allWithin_calls _ _ _ _ (by omega) (by omega) _)).mono ?_; rintro e w' ⟨rfl, nx, rfl⟩))
        go_ret
        exact ⟨rfl, by with_reducible repeat (first | exact Below.refl _ _ | apply ba | apply bp | apply bd | apply bn)⟩
      · rw [show all9 ⟨⟨a, b, c⟩, ⟨d, o, f⟩, ⟨g, u, i⟩⟩ l = true by simp [all9, r1, r2, r3]]
        go_enter Try.func39, Try.ntmps39
        go_wp2
        refine wp_loop_rounds 4 ?_
        repeat any_goals (rw [rounds_succ]; go_wp2_with (go_at_call 40; refine (plus_post (allWithin_calls _ _ _ _ (by omega) (by omega) _)).mono ?_; rintro e w' ⟨rfl, nx, rfl⟩))
        go_ret
        exact ⟨rfl, by with_reducible repeat (first | exact Below.refl _ _ | apply ba | apply bp | apply bd | apply bn)⟩

theorem floor256_calls (a : Int) (ha : -9223372036854775808 ≤ a) (ha2 : a ≤ 9223372036854775807) (w : World) :
    Calls Try.prog 58 #[.int .i64 a, .int .i64 256] w fun e w' => e = .returned (.tuple #[.int .i64 (a / 256), .int .i64 0]) ∧ Below w.heap.size w w' :=
  floor_calls a 256 ha ha2 w

theorem rowBy_calls (a b c x y z : Int) (hr : all3 ⟨a, b, c⟩ 1024 = true) (hv : all3 ⟨x, y, z⟩ 32768 = true) (w : World) :
    Calls Try.prog 51 #[.agg #[.int .i64 a, .int .i64 b, .int .i64 c], .agg #[.int .i64 x, .int .i64 y, .int .i64 z]] w fun e w' => e = .returned (.int .i64 (rowBy ⟨a, b, c⟩ ⟨x, y, z⟩)) ∧ Below w.heap.size w w' := by
  obtain ⟨⟨p1, p2⟩, ⟨p3, p4⟩, p5, p6⟩ := prods_bd hr hv
  simp only at p1 p2 p3 p4 p5 p6
  clear hr hv
  go_enter Try.func51, Try.ntmps51
  go_wp2
  refine wp_loop_rounds 4 ?_
  repeat any_goals (rw [rounds_succ]; go_wp2_with (go_at_call 58; refine (plus_post (floor256_calls _ (by omega) (by omega) _)).mono ?_; rintro e w' ⟨rfl, nx, rfl⟩))
  go_ret
  exact ⟨ret_int rfl, by with_reducible repeat (first | exact Below.refl _ _ | apply ba | apply bp | apply bd | apply bn)⟩

end Go.Proofs.Ytondjoilcpcneaa
