/- What the functions of package fixed give, on: Scale, Div, Join, Holds. -/
import Derived.Test.YtondjoilcpcneaaFixed
import Derived.Test.YtondjoilcpcneaaTail
namespace Go.Proofs.Ytondjoilcpcneaa
open Go.RowKit
set_option linter.unusedSimpArgs false
attribute [local go_sem] plus_size plus_drew dn_set dn_alloc dn_plus plus_dn cell_plus frozen_plus set_plus cell_alloc frozen_alloc set_alloc

theorem scale_calls (a b k : Int) (w : World) :
    Calls Try.prog 45 #[.agg #[.int .i64 a, .int .i64 b], .int .i64 k] w fun e w' => e = .returned (.tuple #[.agg #[.int .i64 (scale a b k).1, .int .i64 (scale a b k).2.1], .int .i64 (scale a b k).2.2]) ∧ Below w.heap.size w w' := by
  rcases chk_or a b with ⟨h1, g1, g2, g3⟩ | ⟨h1, _⟩
  · by_cases k1 : -1048576 ≤ k
    · by_cases k2 : k ≤ 1048576
      · have m1 := @mul_bd k a k1 k2 g1 (by omega)
        have m2 := @mul_bd k b k1 k2 (by omega) g2
        by_cases hlt : k * b < k * a
        · rw [show scale a b k = rng (k * b) (k * a) by simp only [scale, h1, if_pos, and_self, k1, k2]; rw [Int.min_eq_right (by omega), Int.max_eq_left (by omega)]]
          go_enter Try.func45, Try.ntmps45
          go_wp2_with (first | (go_at_call 53; refine (plus_post (check_calls _ _ _)).mono ?_; rintro e w' ⟨rfl, x, rfl⟩) | (go_at_call 54; refine (plus_post (span_calls _ _ _)).mono ?_; rintro e w' ⟨rfl, x, rfl⟩))
          go_quiet (fail)
          go_wp2_with (first | (go_at_call 53; refine (plus_post (check_calls _ _ _)).mono ?_; rintro e w' ⟨rfl, x, rfl⟩) | (go_at_call 54; refine (plus_post (span_calls _ _ _)).mono ?_; rintro e w' ⟨rfl, x, rfl⟩))
          exact bodyPost_ret (v := .tuple #[.agg #[.int .i64 _, .int .i64 _], .int .i64 _]) (by simp [results, Try.results45, go_sem, ↓IntWalk.iteOmega]) rfl ⟨rfl, by with_reducible repeat (first | exact Below.refl _ _ | apply ba | apply bp | apply bd | apply bn)⟩
        · rw [show scale a b k = rng (k * a) (k * b) by simp only [scale, h1, if_pos, and_self, k1, k2]; rw [Int.min_eq_left (by omega), Int.max_eq_right (by omega)]]
          go_enter Try.func45, Try.ntmps45
          go_wp2_with (first | (go_at_call 53; refine (plus_post (check_calls _ _ _)).mono ?_; rintro e w' ⟨rfl, x, rfl⟩) | (go_at_call 54; refine (plus_post (span_calls _ _ _)).mono ?_; rintro e w' ⟨rfl, x, rfl⟩))
          go_quiet (fail)
          go_wp2_with (first | (go_at_call 53; refine (plus_post (check_calls _ _ _)).mono ?_; rintro e w' ⟨rfl, x, rfl⟩) | (go_at_call 54; refine (plus_post (span_calls _ _ _)).mono ?_; rintro e w' ⟨rfl, x, rfl⟩))
          exact bodyPost_ret (v := .tuple #[.agg #[.int .i64 _, .int .i64 _], .int .i64 _]) (by simp [results, Try.results45, go_sem, ↓IntWalk.iteOmega]) rfl ⟨rfl, by with_reducible repeat (first | exact Below.refl _ _ | apply ba | apply bp | apply bd | apply bn)⟩
      · rw [show scale a b k = (0, 0, 2) by simp [scale, h1, k2]]
        go_enter Try.func45, Try.ntmps45
        go_wp2_with (first | (go_at_call 53; refine (plus_post (check_calls _ _ _)).mono ?_; rintro e w' ⟨rfl, x, rfl⟩) | (go_at_call 54; refine (plus_post (span_calls _ _ _)).mono ?_; rintro e w' ⟨rfl, x, rfl⟩))
        exact bodyPost_ret (v := .tuple #[.agg #[.int .i64 _, .int .i64 _], .int .i64 _]) (by simp [results, Try.results45, go_sem, ↓IntWalk.iteOmega]) rfl ⟨rfl, by with_reducible repeat (first | exact Below.refl _ _ | apply ba | apply bp | apply bd | apply bn)⟩
    · rw [show scale a b k = (0, 0, 2) by simp [scale, h1, k1]]
      go_enter Try.func45, Try.ntmps45
      go_wp2_with (first | (go_at_call 53; refine (plus_post (check_calls _ _ _)).mono ?_; rintro e w' ⟨rfl, x, rfl⟩) | (go_at_call 54; refine (plus_post (span_calls _ _ _)).mono ?_; rintro e w' ⟨rfl, x, rfl⟩))
      exact bodyPost_ret (v := .tuple #[.agg #[.int .i64 _, .int .i64 _], .int .i64 _]) (by simp [results, Try.results45, go_sem, ↓IntWalk.iteOmega]) rfl ⟨rfl, by with_reducible repeat (first | exact Below.refl _ _ | apply ba | apply bp | apply bd | apply bn)⟩
  · rw [show scale a b k = (0, 0, 8) by simp [scale, h1]]
    go_enter Try.func45, Try.ntmps45
    go_wp2_with (first | (go_at_call 53; refine (plus_post (check_calls _ _ _)).mono ?_; rintro e w' ⟨rfl, x, rfl⟩) | (go_at_call 54; refine (plus_post (span_calls _ _ _)).mono ?_; rintro e w' ⟨rfl, x, rfl⟩))
    exact bodyPost_ret (v := .tuple #[.agg #[.int .i64 _, .int .i64 _], .int .i64 _]) (by simp [results, Try.results45, go_sem, ↓IntWalk.iteOmega]) rfl ⟨rfl, by with_reducible repeat (first | exact Below.refl _ _ | apply ba | apply bp | apply bd | apply bn)⟩

theorem quo_in {a b k : Int} (g1 : -1099511627776 ≤ a) (g2 : b ≤ 1099511627776) (g3 : a ≤ b) (k1 : 1 ≤ k) : chk (a / k) (b / k) = 0 := by
  have d1 := div_bd (a := a) k1 (-1099511627776) 1099511627776 g1 (by omega) (by omega) (by omega)
  have d2 := div_bd (a := b) k1 (-1099511627776) 1099511627776 (by omega) (by omega) g2 (by omega)
  exact chk_yes d1.1 d2.2 (div_mono k1 g3)

theorem div_calls (a b k : Int) (w : World) :
    Calls Try.prog 47 #[.agg #[.int .i64 a, .int .i64 b], .int .i64 k] w fun e w' => e = .returned (.tuple #[.agg #[.int .i64 (quo a b k).1, .int .i64 (quo a b k).2.1], .int .i64 (quo a b k).2.2]) ∧ Below w.heap.size w w' := by
  rcases chk_or a b with ⟨h1, g1, g2, g3⟩ | ⟨h1, _⟩
  · by_cases k1 : 1 ≤ k
    · by_cases k2 : k ≤ 1099511627776
      · rw [show quo a b k = rng (a / k) (b / k) by rw [rng_yes (quo_in g1 g2 g3 k1)]; simp [quo, h1, k1, k2]]
        go_enter Try.func47, Try.ntmps47
        go_wp2_with (first | (go_at_call 53; refine (plus_post (check_calls _ _ _)).mono ?_; rintro e w' ⟨rfl, x, rfl⟩) | (go_at_call 54; refine (plus_post (span_calls _ _ _)).mono ?_; rintro e w' ⟨rfl, x, rfl⟩))
        refine region_tail 11 (by kernel_rfl) (by kernel_rfl) ?_
        simp only [List.take_succ_cons, List.take_zero, List.drop_succ_cons, List.drop_zero]
        repeat (go_big_quiet_step ((first | (go_at_call 56; exact plus_of (down_calls _ _ (by omega) (by omega) k1 _)) | (go_at_call 54; exact plus_of (span_calls _ _ _)))))
        refine wpQuiet_nil ?_
        rintro _ ⟨x2, rfl⟩
        go_wp2
        exact bodyPost_ret (v := .tuple #[.agg #[.int .i64 _, .int .i64 _], .int .i64 _]) (by simp [results, Try.results47, go_sem, ↓IntWalk.iteOmega]) rfl ⟨rfl, by with_reducible repeat (first | exact Below.refl _ _ | apply ba | apply bp | apply bd | apply bn)⟩
      · rw [show quo a b k = (0, 0, 2) by simp [quo, h1, k2]]
        go_enter Try.func47, Try.ntmps47
        go_wp2_with (first | (go_at_call 53; refine (plus_post (check_calls _ _ _)).mono ?_; rintro e w' ⟨rfl, x, rfl⟩) | (go_at_call 54; refine (plus_post (span_calls _ _ _)).mono ?_; rintro e w' ⟨rfl, x, rfl⟩))
        exact bodyPost_ret (v := .tuple #[.agg #[.int .i64 _, .int .i64 _], .int .i64 _]) (by simp [results, Try.results47, go_sem, ↓IntWalk.iteOmega]) rfl ⟨rfl, by with_reducible repeat (first | exact Below.refl _ _ | apply ba | apply bp | apply bd | apply bn)⟩
    · rw [show quo a b k = (0, 0, 2) by simp [quo, h1, k1]]
      go_enter Try.func47, Try.ntmps47
      go_wp2_with (first | (go_at_call 53; refine (plus_post (check_calls _ _ _)).mono ?_; rintro e w' ⟨rfl, x, rfl⟩) | (go_at_call 54; refine (plus_post (span_calls _ _ _)).mono ?_; rintro e w' ⟨rfl, x, rfl⟩))
      exact bodyPost_ret (v := .tuple #[.agg #[.int .i64 _, .int .i64 _], .int .i64 _]) (by simp [results, Try.results47, go_sem, ↓IntWalk.iteOmega]) rfl ⟨rfl, by with_reducible repeat (first | exact Below.refl _ _ | apply ba | apply bp | apply bd | apply bn)⟩
  · rw [show quo a b k = (0, 0, 8) by simp [quo, h1]]
    go_enter Try.func47, Try.ntmps47
    go_wp2_with (first | (go_at_call 53; refine (plus_post (check_calls _ _ _)).mono ?_; rintro e w' ⟨rfl, x, rfl⟩) | (go_at_call 54; refine (plus_post (span_calls _ _ _)).mono ?_; rintro e w' ⟨rfl, x, rfl⟩))
    exact bodyPost_ret (v := .tuple #[.agg #[.int .i64 _, .int .i64 _], .int .i64 _]) (by simp [results, Try.results47, go_sem, ↓IntWalk.iteOmega]) rfl ⟨rfl, by with_reducible repeat (first | exact Below.refl _ _ | apply ba | apply bp | apply bd | apply bn)⟩

theorem join_in {a b c d : Int} (g1 : -1099511627776 ≤ a) (g2 : b ≤ 1099511627776) (g3 : a ≤ b) (g4 : -1099511627776 ≤ c) (g5 : d ≤ 1099511627776) (g6 : c ≤ d) : chk (min a c) (max b d) = 0 := by
  exact chk_yes (by omega) (by omega) (by omega)

end Go.Proofs.Ytondjoilcpcneaa
