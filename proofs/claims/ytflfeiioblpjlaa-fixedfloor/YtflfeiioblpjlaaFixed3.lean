/- What the document's own functions (dioramaref01), Holds, and the small ones of the statements give. -/
import Derived.Test.YtflfeiioblpjlaaFixed2
namespace Go.Proofs.Ytflfeiioblpjlaa
open Go.RowKit
set_option linter.unusedSimpArgs false
attribute [local go_sem] plus_size plus_drew dn_set dn_alloc dn_plus plus_dn cell_plus frozen_plus set_plus cell_alloc frozen_alloc set_alloc

theorem holds_calls (l h n : Int) (w : World) :
    Calls Try.prog 22 #[.agg #[.int .i64 l, .int .i64 h], .int .i64 n] w fun e w' => e = .returned (.bool (inB l h n)) ∧ Below w.heap.size w w' := by
  by_cases h1 : l ≤ n
  · by_cases h2 : n ≤ h
    · rw [show inB l h n = true by simp [inB, h1, h2]]
      go_enter Try.func22, Try.ntmps22
      go_wp2
      go_ret
      exact ⟨rfl, by with_reducible repeat (first | exact Below.refl _ _ | apply ba | apply bp | apply bd | apply bn)⟩
    · rw [show inB l h n = false by simp [inB]; omega]
      go_enter Try.func22, Try.ntmps22
      go_wp2
      go_ret
      exact ⟨rfl, by with_reducible repeat (first | exact Below.refl _ _ | apply ba | apply bp | apply bd | apply bn)⟩
  · rw [show inB l h n = false by simp [inB]; omega]
    go_enter Try.func22, Try.ntmps22
    go_wp2
    go_ret
    exact ⟨rfl, by with_reducible repeat (first | exact Below.refl _ _ | apply ba | apply bp | apply bd | apply bn)⟩

theorem may_calls (l h : Int) (w : World) :
    Calls Try.prog 21 #[.agg #[.int .i64 l, .int .i64 h]] w fun e w' => e = .returned (.bool (mayB l h)) ∧ Below w.heap.size w w' := by
  by_cases h1 : -1099511627776 ≤ l
  · by_cases h2 : h ≤ 1099511627776
    · by_cases h3 : l ≤ h
      · rw [show mayB l h = true by simp [mayB, chk_yes h1 h2 h3]]
        go_enter Try.func21, Try.ntmps21
        go_wp2
        go_ret
        exact ⟨rfl, by with_reducible repeat (first | exact Below.refl _ _ | apply ba | apply bp | apply bd | apply bn)⟩
      · rw [show mayB l h = false by rw [mayB, chk_no (by omega)]; rfl]
        go_enter Try.func21, Try.ntmps21
        go_wp2
        go_ret
        exact ⟨rfl, by with_reducible repeat (first | exact Below.refl _ _ | apply ba | apply bp | apply bd | apply bn)⟩
    · rw [show mayB l h = false by rw [mayB, chk_no (by omega)]; rfl]
      go_enter Try.func21, Try.ntmps21
      go_wp2
      go_ret
      exact ⟨rfl, by with_reducible repeat (first | exact Below.refl _ _ | apply ba | apply bp | apply bd | apply bn)⟩
  · rw [show mayB l h = false by rw [mayB, chk_no (by omega)]; rfl]
    go_enter Try.func21, Try.ntmps21
    go_wp2
    go_ret
    exact ⟨rfl, by with_reducible repeat (first | exact Below.refl _ _ | apply ba | apply bp | apply bd | apply bn)⟩

theorem may_yes {l h : Int} (e : chk l h = 0) : mayB l h = true := by simp [mayB, e]
theorem may_no {l h : Int} (e : chk l h = 8) : mayB l h = false := by simp [mayB, e]

theorem rdown_calls (a b : Int) (ha : -9223372036854775808 ≤ a) (ha2 : a ≤ 9223372036854775807) (hb : 1 ≤ b) (w : World) :
    Calls Try.prog 28 #[.int .i64 a, .int .i64 b] w fun e w' => e = .returned (.int .i64 (a / b)) ∧ Below w.heap.size w w' := by
  have hd := (tdiv_bd hb ha ha2).1
  have hm := tdiv_mul_bd hb ha ha2
  have ht := tdiv_mul a b
  have HT : Hid (a.tdiv b * b = a - a.tmod b) := ht
  clear ht
  by_cases hlt : a.tmod b < 0
  · have h2 : a < a.tdiv b * b := by rw [HT.out]; omega
    have hd2 := hd hlt
    rw [← tmod_lt hb hlt]
    clear hd
    go_enter Try.func28, Try.ntmps28
    go_wp2
    go_ret
    exact ⟨rfl, by with_reducible repeat (first | exact Below.refl _ _ | apply ba | apply bp | apply bd | apply bn)⟩
  · have h2 : ¬ a < a.tdiv b * b := by rw [HT.out]; omega
    rw [← tmod_ge hb (by omega)]
    clear hd
    go_enter Try.func28, Try.ntmps28
    go_wp2
    go_ret
    exact ⟨rfl, by with_reducible repeat (first | exact Below.refl _ _ | apply ba | apply bp | apply bd | apply bn)⟩

theorem ranged_calls (l h : Int) (w : World) :
    Calls Try.prog 27 #[.agg #[.int .i64 l, .int .i64 h]] w fun e w' => e = .returned (.tuple #[.agg #[.int .i64 (rng l h).1, .int .i64 (rng l h).2.1], .int .i64 (rng l h).2.2]) ∧ Below w.heap.size w w' := by
  rcases chk_or l h with ⟨g, _⟩ | ⟨g, _⟩
  · rw [rng_yes g]
    have g' := may_yes g
    go_enter Try.func27, Try.ntmps27
    go_wp2_with (go_at_call 21; refine (plus_post (may_calls _ _ _)).mono ?_; rintro e w' ⟨rfl, x, rfl⟩)
    exact bodyPost_ret (v := .tuple #[.agg #[.int .i64 _, .int .i64 _], .int .i64 _]) (by simp [results, Try.results27, go_sem, ↓IntWalk.iteOmega]) rfl ⟨rfl, by with_reducible repeat (first | exact Below.refl _ _ | apply ba | apply bp | apply bd | apply bn)⟩
  · rw [rng_no g]
    have g' := may_no g
    go_enter Try.func27, Try.ntmps27
    go_wp2_with (go_at_call 21; refine (plus_post (may_calls _ _ _)).mono ?_; rintro e w' ⟨rfl, x, rfl⟩)
    exact bodyPost_ret (v := .tuple #[.agg #[.int .i64 _, .int .i64 _], .int .i64 _]) (by simp [results, Try.results27, go_sem, ↓IntWalk.iteOmega]) rfl ⟨rfl, by with_reducible repeat (first | exact Below.refl _ _ | apply ba | apply bp | apply bd | apply bn)⟩

theorem radd_calls (a b c d : Int) (w : World) :
    Calls Try.prog 17 #[.agg #[.int .i64 a, .int .i64 b], .agg #[.int .i64 c, .int .i64 d]] w fun e w' => e = .returned (.tuple #[.agg #[.int .i64 (add a b c d).1, .int .i64 (add a b c d).2.1], .int .i64 (add a b c d).2.2]) ∧ Below w.heap.size w w' := by
  rcases chk_or a b with ⟨h1, g1, g2, g3⟩ | ⟨h1, _⟩
  · have m1 := may_yes h1
    rcases chk_or c d with ⟨h2, g4, g5, g6⟩ | ⟨h2, _⟩
    · have m2 := may_yes h2
      rw [show add a b c d = rng (a + c) (b + d) by simp [add, h1, h2]]
      go_enter Try.func17, Try.ntmps17
      go_wp2_with (first | (go_at_call 21; refine (plus_post (may_calls _ _ _)).mono ?_; rintro e w' ⟨rfl, x, rfl⟩) | (go_at_call 27; refine (plus_post (ranged_calls _ _ _)).mono ?_; rintro e w' ⟨rfl, x, rfl⟩))
      exact bodyPost_ret (v := .tuple #[.agg #[.int .i64 _, .int .i64 _], .int .i64 _]) (by simp [results, Try.results17, go_sem, ↓IntWalk.iteOmega]) rfl ⟨rfl, by with_reducible repeat (first | exact Below.refl _ _ | apply ba | apply bp | apply bd | apply bn)⟩
    · have m2 := may_no h2
      rw [show add a b c d = (0, 0, 8) by simp [add, h1, h2]]
      go_enter Try.func17, Try.ntmps17
      go_wp2_with (first | (go_at_call 21; refine (plus_post (may_calls _ _ _)).mono ?_; rintro e w' ⟨rfl, x, rfl⟩) | (go_at_call 27; refine (plus_post (ranged_calls _ _ _)).mono ?_; rintro e w' ⟨rfl, x, rfl⟩))
      exact bodyPost_ret (v := .tuple #[.agg #[.int .i64 _, .int .i64 _], .int .i64 _]) (by simp [results, Try.results17, go_sem, ↓IntWalk.iteOmega]) rfl ⟨rfl, by with_reducible repeat (first | exact Below.refl _ _ | apply ba | apply bp | apply bd | apply bn)⟩
  · have m1 := may_no h1
    rw [show add a b c d = (0, 0, 8) by simp [add, h1]]
    go_enter Try.func17, Try.ntmps17
    go_wp2_with (first | (go_at_call 21; refine (plus_post (may_calls _ _ _)).mono ?_; rintro e w' ⟨rfl, x, rfl⟩) | (go_at_call 27; refine (plus_post (ranged_calls _ _ _)).mono ?_; rintro e w' ⟨rfl, x, rfl⟩))
    exact bodyPost_ret (v := .tuple #[.agg #[.int .i64 _, .int .i64 _], .int .i64 _]) (by simp [results, Try.results17, go_sem, ↓IntWalk.iteOmega]) rfl ⟨rfl, by with_reducible repeat (first | exact Below.refl _ _ | apply ba | apply bp | apply bd | apply bn)⟩

theorem rscale_calls (a b k : Int) (w : World) :
    Calls Try.prog 18 #[.agg #[.int .i64 a, .int .i64 b], .int .i64 k] w fun e w' => e = .returned (.tuple #[.agg #[.int .i64 (scale a b k).1, .int .i64 (scale a b k).2.1], .int .i64 (scale a b k).2.2]) ∧ Below w.heap.size w w' := by
  rcases chk_or a b with ⟨h1, g1, g2, g3⟩ | ⟨h1, _⟩
  · have m1 := may_yes h1
    by_cases k1 : -1048576 ≤ k
    · by_cases k2 : k ≤ 1048576
      · have m2 := @mul_bd k a k1 k2 g1 (by omega)
        have m3 := @mul_bd k b k1 k2 (by omega) g2
        by_cases hlt : k * b < k * a
        · rw [show scale a b k = rng (k * b) (k * a) by simp only [scale, h1, if_pos, and_self, k1, k2]; rw [Int.min_eq_right (by omega), Int.max_eq_left (by omega)]]
          go_enter Try.func18, Try.ntmps18
          go_wp2_with (first | (go_at_call 21; refine (plus_post (may_calls _ _ _)).mono ?_; rintro e w' ⟨rfl, x, rfl⟩) | (go_at_call 27; refine (plus_post (ranged_calls _ _ _)).mono ?_; rintro e w' ⟨rfl, x, rfl⟩))
          exact bodyPost_ret (v := .tuple #[.agg #[.int .i64 _, .int .i64 _], .int .i64 _]) (by simp [results, Try.results18, go_sem, ↓IntWalk.iteOmega]) rfl ⟨rfl, by with_reducible repeat (first | exact Below.refl _ _ | apply ba | apply bp | apply bd | apply bn)⟩
        · by_cases heq : k * a < k * b
          · rw [show scale a b k = rng (k * a) (k * b) by simp only [scale, h1, if_pos, and_self, k1, k2]; rw [Int.min_eq_left (by omega), Int.max_eq_right (by omega)]]
            go_enter Try.func18, Try.ntmps18
            go_wp2_with (first | (go_at_call 21; refine (plus_post (may_calls _ _ _)).mono ?_; rintro e w' ⟨rfl, x, rfl⟩) | (go_at_call 27; refine (plus_post (ranged_calls _ _ _)).mono ?_; rintro e w' ⟨rfl, x, rfl⟩))
            exact bodyPost_ret (v := .tuple #[.agg #[.int .i64 _, .int .i64 _], .int .i64 _]) (by simp [results, Try.results18, go_sem, ↓IntWalk.iteOmega]) rfl ⟨rfl, by with_reducible repeat (first | exact Below.refl _ _ | apply ba | apply bp | apply bd | apply bn)⟩
          · have e : k * b = k * a := by omega
            rw [show scale a b k = rng (k * a) (k * a) by simp only [scale, h1, if_pos, and_self, k1, k2, e]; rw [Int.min_eq_left (by omega), Int.max_eq_right (by omega)]]
            go_enter Try.func18, Try.ntmps18
            go_wp2_with (first | (go_at_call 21; refine (plus_post (may_calls _ _ _)).mono ?_; rintro e w' ⟨rfl, x, rfl⟩) | (go_at_call 27; refine (plus_post (ranged_calls _ _ _)).mono ?_; rintro e w' ⟨rfl, x, rfl⟩))
            exact bodyPost_ret (v := .tuple #[.agg #[.int .i64 _, .int .i64 _], .int .i64 _]) (by simp [results, Try.results18, go_sem, ↓IntWalk.iteOmega]) rfl ⟨rfl, by with_reducible repeat (first | exact Below.refl _ _ | apply ba | apply bp | apply bd | apply bn)⟩
      · rw [show scale a b k = (0, 0, 2) by simp [scale, h1, k2]]
        go_enter Try.func18, Try.ntmps18
        go_wp2_with (first | (go_at_call 21; refine (plus_post (may_calls _ _ _)).mono ?_; rintro e w' ⟨rfl, x, rfl⟩) | (go_at_call 27; refine (plus_post (ranged_calls _ _ _)).mono ?_; rintro e w' ⟨rfl, x, rfl⟩))
        exact bodyPost_ret (v := .tuple #[.agg #[.int .i64 _, .int .i64 _], .int .i64 _]) (by simp [results, Try.results18, go_sem, ↓IntWalk.iteOmega]) rfl ⟨rfl, by with_reducible repeat (first | exact Below.refl _ _ | apply ba | apply bp | apply bd | apply bn)⟩
    · rw [show scale a b k = (0, 0, 2) by simp [scale, h1, k1]]
      go_enter Try.func18, Try.ntmps18
      go_wp2_with (first | (go_at_call 21; refine (plus_post (may_calls _ _ _)).mono ?_; rintro e w' ⟨rfl, x, rfl⟩) | (go_at_call 27; refine (plus_post (ranged_calls _ _ _)).mono ?_; rintro e w' ⟨rfl, x, rfl⟩))
      exact bodyPost_ret (v := .tuple #[.agg #[.int .i64 _, .int .i64 _], .int .i64 _]) (by simp [results, Try.results18, go_sem, ↓IntWalk.iteOmega]) rfl ⟨rfl, by with_reducible repeat (first | exact Below.refl _ _ | apply ba | apply bp | apply bd | apply bn)⟩
  · have m1 := may_no h1
    rw [show scale a b k = (0, 0, 8) by simp [scale, h1]]
    go_enter Try.func18, Try.ntmps18
    go_wp2_with (first | (go_at_call 21; refine (plus_post (may_calls _ _ _)).mono ?_; rintro e w' ⟨rfl, x, rfl⟩) | (go_at_call 27; refine (plus_post (ranged_calls _ _ _)).mono ?_; rintro e w' ⟨rfl, x, rfl⟩))
    exact bodyPost_ret (v := .tuple #[.agg #[.int .i64 _, .int .i64 _], .int .i64 _]) (by simp [results, Try.results18, go_sem, ↓IntWalk.iteOmega]) rfl ⟨rfl, by with_reducible repeat (first | exact Below.refl _ _ | apply ba | apply bp | apply bd | apply bn)⟩

theorem rdiv_calls (a b k : Int) (w : World) :
    Calls Try.prog 19 #[.agg #[.int .i64 a, .int .i64 b], .int .i64 k] w fun e w' => e = .returned (.tuple #[.agg #[.int .i64 (quo a b k).1, .int .i64 (quo a b k).2.1], .int .i64 (quo a b k).2.2]) ∧ Below w.heap.size w w' := by
  rcases chk_or a b with ⟨h1, g1, g2, g3⟩ | ⟨h1, _⟩
  · have m1 := may_yes h1
    by_cases k1 : 1 ≤ k
    · by_cases k2 : k ≤ 1099511627776
      · rw [show quo a b k = (a / k, b / k, 0) by simp [quo, h1, k1, k2]]
        go_enter Try.func19, Try.ntmps19
        go_wp2_with (first | (go_at_call 21; refine (plus_post (may_calls _ _ _)).mono ?_; rintro e w' ⟨rfl, x, rfl⟩) | (go_at_call 27; refine (plus_post (ranged_calls _ _ _)).mono ?_; rintro e w' ⟨rfl, x, rfl⟩))
        refine region_tail 9 (by kernel_rfl) (by kernel_rfl) ?_
        simp only [List.take_succ_cons, List.take_zero, List.drop_succ_cons, List.drop_zero]
        repeat (go_big_quiet_step ((go_at_call 28; exact plus_of (rdown_calls _ _ (by omega) (by omega) k1 _))))
        refine wpQuiet_nil ?_
        rintro _ ⟨x2, rfl⟩
        go_wp2
        exact bodyPost_ret (v := .tuple #[.agg #[.int .i64 _, .int .i64 _], .int .i64 _]) (by simp [results, Try.results19, go_sem, ↓IntWalk.iteOmega]) rfl ⟨rfl, by with_reducible repeat (first | exact Below.refl _ _ | apply ba | apply bp | apply bd | apply bn)⟩
      · rw [show quo a b k = (0, 0, 2) by simp [quo, h1, k2]]
        go_enter Try.func19, Try.ntmps19
        go_wp2_with (first | (go_at_call 21; refine (plus_post (may_calls _ _ _)).mono ?_; rintro e w' ⟨rfl, x, rfl⟩) | (go_at_call 27; refine (plus_post (ranged_calls _ _ _)).mono ?_; rintro e w' ⟨rfl, x, rfl⟩))
        exact bodyPost_ret (v := .tuple #[.agg #[.int .i64 _, .int .i64 _], .int .i64 _]) (by simp [results, Try.results19, go_sem, ↓IntWalk.iteOmega]) rfl ⟨rfl, by with_reducible repeat (first | exact Below.refl _ _ | apply ba | apply bp | apply bd | apply bn)⟩
    · rw [show quo a b k = (0, 0, 2) by simp [quo, h1, k1]]
      go_enter Try.func19, Try.ntmps19
      go_wp2_with (first | (go_at_call 21; refine (plus_post (may_calls _ _ _)).mono ?_; rintro e w' ⟨rfl, x, rfl⟩) | (go_at_call 27; refine (plus_post (ranged_calls _ _ _)).mono ?_; rintro e w' ⟨rfl, x, rfl⟩))
      exact bodyPost_ret (v := .tuple #[.agg #[.int .i64 _, .int .i64 _], .int .i64 _]) (by simp [results, Try.results19, go_sem, ↓IntWalk.iteOmega]) rfl ⟨rfl, by with_reducible repeat (first | exact Below.refl _ _ | apply ba | apply bp | apply bd | apply bn)⟩
  · have m1 := may_no h1
    rw [show quo a b k = (0, 0, 8) by simp [quo, h1]]
    go_enter Try.func19, Try.ntmps19
    go_wp2_with (first | (go_at_call 21; refine (plus_post (may_calls _ _ _)).mono ?_; rintro e w' ⟨rfl, x, rfl⟩) | (go_at_call 27; refine (plus_post (ranged_calls _ _ _)).mono ?_; rintro e w' ⟨rfl, x, rfl⟩))
    exact bodyPost_ret (v := .tuple #[.agg #[.int .i64 _, .int .i64 _], .int .i64 _]) (by simp [results, Try.results19, go_sem, ↓IntWalk.iteOmega]) rfl ⟨rfl, by with_reducible repeat (first | exact Below.refl _ _ | apply ba | apply bp | apply bd | apply bn)⟩

theorem rjoin_calls (a b c d : Int) (w : World) :
    Calls Try.prog 20 #[.agg #[.int .i64 a, .int .i64 b], .agg #[.int .i64 c, .int .i64 d]] w fun e w' => e = .returned (.tuple #[.agg #[.int .i64 (join a b c d).1, .int .i64 (join a b c d).2.1], .int .i64 (join a b c d).2.2]) ∧ Below w.heap.size w w' := by
  rcases chk_or a b with ⟨h1, g1, g2, g3⟩ | ⟨h1, _⟩
  · have m1 := may_yes h1
    rcases chk_or c d with ⟨h2, g4, g5, g6⟩ | ⟨h2, _⟩
    · have m2 := may_yes h2
      rw [show join a b c d = (min a c, max b d, 0) by simp [join, h1, h2]]
      go_enter Try.func20, Try.ntmps20
      go_wp2_with (first | (go_at_call 21; refine (plus_post (may_calls _ _ _)).mono ?_; rintro e w' ⟨rfl, x, rfl⟩) | (go_at_call 27; refine (plus_post (ranged_calls _ _ _)).mono ?_; rintro e w' ⟨rfl, x, rfl⟩))
      all_goals
        first | rw [Int.min_eq_left (show a ≤ c by omega)] | rw [Int.min_eq_right (show c ≤ a by omega)]
        first | rw [Int.max_eq_left (show d ≤ b by omega)] | rw [Int.max_eq_right (show b ≤ d by omega)]
        exact bodyPost_ret (v := .tuple #[.agg #[.int .i64 _, .int .i64 _], .int .i64 _]) (by simp [results, Try.results20, go_sem, ↓IntWalk.iteOmega]) rfl ⟨rfl, by with_reducible repeat (first | exact Below.refl _ _ | apply ba | apply bp | apply bd | apply bn)⟩
    · have m2 := may_no h2
      rw [show join a b c d = (0, 0, 8) by simp [join, h1, h2]]
      go_enter Try.func20, Try.ntmps20
      go_wp2_with (first | (go_at_call 21; refine (plus_post (may_calls _ _ _)).mono ?_; rintro e w' ⟨rfl, x, rfl⟩) | (go_at_call 27; refine (plus_post (ranged_calls _ _ _)).mono ?_; rintro e w' ⟨rfl, x, rfl⟩))
      exact bodyPost_ret (v := .tuple #[.agg #[.int .i64 _, .int .i64 _], .int .i64 _]) (by simp [results, Try.results20, go_sem, ↓IntWalk.iteOmega]) rfl ⟨rfl, by with_reducible repeat (first | exact Below.refl _ _ | apply ba | apply bp | apply bd | apply bn)⟩
  · have m1 := may_no h1
    rw [show join a b c d = (0, 0, 8) by simp [join, h1]]
    go_enter Try.func20, Try.ntmps20
    go_wp2_with (first | (go_at_call 21; refine (plus_post (may_calls _ _ _)).mono ?_; rintro e w' ⟨rfl, x, rfl⟩) | (go_at_call 27; refine (plus_post (ranged_calls _ _ _)).mono ?_; rintro e w' ⟨rfl, x, rfl⟩))
    exact bodyPost_ret (v := .tuple #[.agg #[.int .i64 _, .int .i64 _], .int .i64 _]) (by simp [results, Try.results20, go_sem, ↓IntWalk.iteOmega]) rfl ⟨rfl, by with_reducible repeat (first | exact Below.refl _ _ | apply ba | apply bp | apply bd | apply bn)⟩

theorem lspan_calls (a b : Int) (w : World) :
    Calls Try.prog 11 #[.int .i64 a, .int .i64 b] w fun e w' => e = .returned (.agg #[.int .i64 a, .int .i64 b]) ∧ Below w.heap.size w w' := by
  go_enter Try.func11, Try.ntmps11
  go_wp2
  exact bodyPost_ret (v := .agg #[.int .i64 a, .int .i64 b]) (by simp [results, Try.results11, go_sem, ↓IntWalk.iteOmega]) rfl ⟨rfl, by with_reducible repeat (first | exact Below.refl _ _ | apply ba | apply bp | apply bd | apply bn)⟩

theorem alive_calls (w : World) :
    Calls Try.prog 15 #[] w fun e w' => e = .returned (.bool true) ∧ Below w.heap.size w w' := by
  have e1 : (flo (-7) 2).1 = -4 := rfl
  have e2 : (flo (-7) 2).2 = 0 := rfl
  have e3 : (cei 7 2).1 = 4 := rfl
  have e4 : (cei 7 2).2 = 0 := rfl
  go_enter Try.func15, Try.ntmps15
  go_wp2_with (first | (go_at_call 8; refine (plus_post (floor_calls _ _ (by omega) (by omega) _)).mono ?_; rintro e w' ⟨rfl, x, rfl⟩) | (go_at_call 9; refine (plus_post (ceil_calls _ _ (by omega) (by omega) _)).mono ?_; rintro e w' ⟨rfl, x, rfl⟩))
  go_ret
  exact ⟨rfl, by with_reducible repeat (first | exact Below.refl _ _ | apply ba | apply bp | apply bd | apply bn)⟩

end Go.Proofs.Ytflfeiioblpjlaa
