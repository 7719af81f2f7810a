/- What the document's own functions for layer 2 give (dioramaref02): In, All, Rows, May, by, Turned, Plus, Unit. -/
import Derived.Test.YtondjoilcpcneaaFresh
import Derived.Test.YtondjoilcpcneaaVec4
namespace Go.Proofs.Ytondjoilcpcneaa
open Go.RowKit Go.ChangeShapes Go.WideShapes Go.ChangeAt
set_option linter.unusedSimpArgs false
set_option linter.unusedVariables false
attribute [local go_sem] plus_size plus_drew dn_set dn_alloc dn_plus plus_dn cell_plus frozen_plus set_plus cell_alloc frozen_alloc set_alloc

attribute [local go_sem] ix3_0 ix3_1 ix3_2 ix9_0 ix9_1 ix9_2

theorem rin_calls (n l : Int) (h0 : 0 ≤ l) (h1 : l ≤ 1000000) (w : World) :
    Calls Try.prog 49 #[.int .i64 n, .int .i64 l] w fun e w' => e = .returned (.bool (within n l)) ∧ w' = w := by
  rcases within_or n l with ⟨a1, a2, a3⟩ | ⟨a1, a3⟩ | ⟨a1, a2, a3⟩
  all_goals
    rw [a3]
    clear a3
    try have hd : decide (n ≤ l) = false := decide_eq_false (by omega)
    go_enter Try.func49, Try.ntmps49
    go_wp2
    go_ret
    exact ⟨rfl, rfl⟩

theorem rall_calls (x y z l : Int) (h0 : 0 ≤ l) (h1 : l ≤ 1000000) (w : World) :
    Calls Try.prog 33 #[.agg #[.int .i64 x, .int .i64 y, .int .i64 z], .int .i64 l] w fun e w' => e = .returned (.bool (all3 ⟨x, y, z⟩ l)) ∧ Below w.heap.size w w' := by
  cases wx : within x l
  · rw [show all3 ⟨x, y, z⟩ l = false by simp [all3, wx]]
    go_enter Try.func33, Try.ntmps33
    go_wp2_with (go_at_call 49; refine (rin_calls _ _ (by omega) (by omega) _).mono ?_; rintro e w' ⟨rfl, rfl⟩)
    go_ret
    exact ⟨rfl, by with_reducible repeat (first | exact Below.refl _ _ | apply ba | apply bp | apply bd | apply bn)⟩
  · cases wy : within y l
    · rw [show all3 ⟨x, y, z⟩ l = false by simp [all3, wy]]
      go_enter Try.func33, Try.ntmps33
      go_wp2_with (go_at_call 49; refine (rin_calls _ _ (by omega) (by omega) _).mono ?_; rintro e w' ⟨rfl, rfl⟩)
      go_ret
      exact ⟨rfl, by with_reducible repeat (first | exact Below.refl _ _ | apply ba | apply bp | apply bd | apply bn)⟩
    · rw [show all3 ⟨x, y, z⟩ l = within z l by simp [all3, wx, wy]]
      go_enter Try.func33, Try.ntmps33
      go_wp2_with (go_at_call 49; refine (rin_calls _ _ (by omega) (by omega) _).mono ?_; rintro e w' ⟨rfl, rfl⟩)
      go_ret
      exact ⟨rfl, by with_reducible repeat (first | exact Below.refl _ _ | apply ba | apply bp | apply bd | apply bn)⟩

set_option maxHeartbeats 4000000 in
theorem rrows_calls (a b c d o f g u i l : Int) (h0 : 0 ≤ l) (h1 : l ≤ 1000000) (w : World) :
    Calls Try.prog 36 #[.agg #[.int .i64 a, .int .i64 b, .int .i64 c, .int .i64 d, .int .i64 o, .int .i64 f, .int .i64 g, .int .i64 u, .int .i64 i], .int .i64 l] w fun e w' => e = .returned (.bool (all9 ⟨⟨a, b, c⟩, ⟨d, o, f⟩, ⟨g, u, i⟩⟩ l)) ∧ Below w.heap.size w w' := by
  cases w0 : within a l
  · rw [show all9 ⟨⟨a, b, c⟩, ⟨d, o, f⟩, ⟨g, u, i⟩⟩ l = false by simp [all9, all3, w0]]
    go_enter Try.func36, Try.ntmps36
    go_wp2_with (go_at_call 49; refine (rin_calls _ _ (by omega) (by omega) _).mono ?_; rintro e w' ⟨rfl, rfl⟩)
    repeat any_goals (first | (rw [rounds_succ]; go_wp2_with (go_at_call 49; refine (rin_calls _ _ (by omega) (by omega) _).mono ?_; rintro e w' ⟨rfl, rfl⟩)) | refine wp_loop_rounds 4 ?_)
    go_ret
    exact ⟨rfl, by with_reducible repeat (first | exact Below.refl _ _ | apply ba | apply bp | apply bd | apply bn)⟩
  ·
    cases w1 : within b l
    · rw [show all9 ⟨⟨a, b, c⟩, ⟨d, o, f⟩, ⟨g, u, i⟩⟩ l = false by simp [all9, all3, w1]]
      go_enter Try.func36, Try.ntmps36
      go_wp2_with (go_at_call 49; refine (rin_calls _ _ (by omega) (by omega) _).mono ?_; rintro e w' ⟨rfl, rfl⟩)
      repeat any_goals (first | (rw [rounds_succ]; go_wp2_with (go_at_call 49; refine (rin_calls _ _ (by omega) (by omega) _).mono ?_; rintro e w' ⟨rfl, rfl⟩)) | refine wp_loop_rounds 4 ?_)
      go_ret
      exact ⟨rfl, by with_reducible repeat (first | exact Below.refl _ _ | apply ba | apply bp | apply bd | apply bn)⟩
    ·
      cases w2 : within c l
      · rw [show all9 ⟨⟨a, b, c⟩, ⟨d, o, f⟩, ⟨g, u, i⟩⟩ l = false by simp [all9, all3, w2]]
        go_enter Try.func36, Try.ntmps36
        go_wp2_with (go_at_call 49; refine (rin_calls _ _ (by omega) (by omega) _).mono ?_; rintro e w' ⟨rfl, rfl⟩)
        repeat any_goals (first | (rw [rounds_succ]; go_wp2_with (go_at_call 49; refine (rin_calls _ _ (by omega) (by omega) _).mono ?_; rintro e w' ⟨rfl, rfl⟩)) | refine wp_loop_rounds 4 ?_)
        go_ret
        exact ⟨rfl, by with_reducible repeat (first | exact Below.refl _ _ | apply ba | apply bp | apply bd | apply bn)⟩
      ·
        cases w3 : within d l
        · rw [show all9 ⟨⟨a, b, c⟩, ⟨d, o, f⟩, ⟨g, u, i⟩⟩ l = false by simp [all9, all3, w3]]
          go_enter Try.func36, Try.ntmps36
          go_wp2_with (go_at_call 49; refine (rin_calls _ _ (by omega) (by omega) _).mono ?_; rintro e w' ⟨rfl, rfl⟩)
          repeat any_goals (first | (rw [rounds_succ]; go_wp2_with (go_at_call 49; refine (rin_calls _ _ (by omega) (by omega) _).mono ?_; rintro e w' ⟨rfl, rfl⟩)) | refine wp_loop_rounds 4 ?_)
          go_ret
          exact ⟨rfl, by with_reducible repeat (first | exact Below.refl _ _ | apply ba | apply bp | apply bd | apply bn)⟩
        ·
          cases w4 : within o l
          · rw [show all9 ⟨⟨a, b, c⟩, ⟨d, o, f⟩, ⟨g, u, i⟩⟩ l = false by simp [all9, all3, w4]]
            go_enter Try.func36, Try.ntmps36
            go_wp2_with (go_at_call 49; refine (rin_calls _ _ (by omega) (by omega) _).mono ?_; rintro e w' ⟨rfl, rfl⟩)
            repeat any_goals (first | (rw [rounds_succ]; go_wp2_with (go_at_call 49; refine (rin_calls _ _ (by omega) (by omega) _).mono ?_; rintro e w' ⟨rfl, rfl⟩)) | refine wp_loop_rounds 4 ?_)
            go_ret
            exact ⟨rfl, by with_reducible repeat (first | exact Below.refl _ _ | apply ba | apply bp | apply bd | apply bn)⟩
          ·
            cases w5 : within f l
            · rw [show all9 ⟨⟨a, b, c⟩, ⟨d, o, f⟩, ⟨g, u, i⟩⟩ l = false by simp [all9, all3, w5]]
              go_enter Try.func36, Try.ntmps36
              go_wp2_with (go_at_call 49; refine (rin_calls _ _ (by omega) (by omega) _).mono ?_; rintro e w' ⟨rfl, rfl⟩)
              repeat any_goals (first | (rw [rounds_succ]; go_wp2_with (go_at_call 49; refine (rin_calls _ _ (by omega) (by omega) _).mono ?_; rintro e w' ⟨rfl, rfl⟩)) | refine wp_loop_rounds 4 ?_)
              go_ret
              exact ⟨rfl, by with_reducible repeat (first | exact Below.refl _ _ | apply ba | apply bp | apply bd | apply bn)⟩
            ·
              cases w6 : within g l
              · rw [show all9 ⟨⟨a, b, c⟩, ⟨d, o, f⟩, ⟨g, u, i⟩⟩ l = false by simp [all9, all3, w6]]
                go_enter Try.func36, Try.ntmps36
                go_wp2_with (go_at_call 49; refine (rin_calls _ _ (by omega) (by omega) _).mono ?_; rintro e w' ⟨rfl, rfl⟩)
                repeat any_goals (first | (rw [rounds_succ]; go_wp2_with (go_at_call 49; refine (rin_calls _ _ (by omega) (by omega) _).mono ?_; rintro e w' ⟨rfl, rfl⟩)) | refine wp_loop_rounds 4 ?_)
                go_ret
                exact ⟨rfl, by with_reducible repeat (first | exact Below.refl _ _ | apply ba | apply bp | apply bd | apply bn)⟩
              ·
                cases w7 : within u l
                · rw [show all9 ⟨⟨a, b, c⟩, ⟨d, o, f⟩, ⟨g, u, i⟩⟩ l = false by simp [all9, all3, w7]]
                  go_enter Try.func36, Try.ntmps36
                  go_wp2_with (go_at_call 49; refine (rin_calls _ _ (by omega) (by omega) _).mono ?_; rintro e w' ⟨rfl, rfl⟩)
                  repeat any_goals (first | (rw [rounds_succ]; go_wp2_with (go_at_call 49; refine (rin_calls _ _ (by omega) (by omega) _).mono ?_; rintro e w' ⟨rfl, rfl⟩)) | refine wp_loop_rounds 4 ?_)
                  go_ret
                  exact ⟨rfl, by with_reducible repeat (first | exact Below.refl _ _ | apply ba | apply bp | apply bd | apply bn)⟩
                ·
                  cases w8 : within i l
                  · rw [show all9 ⟨⟨a, b, c⟩, ⟨d, o, f⟩, ⟨g, u, i⟩⟩ l = false by simp [all9, all3, w8]]
                    go_enter Try.func36, Try.ntmps36
                    go_wp2_with (go_at_call 49; refine (rin_calls _ _ (by omega) (by omega) _).mono ?_; rintro e w' ⟨rfl, rfl⟩)
                    repeat any_goals (first | (rw [rounds_succ]; go_wp2_with (go_at_call 49; refine (rin_calls _ _ (by omega) (by omega) _).mono ?_; rintro e w' ⟨rfl, rfl⟩)) | refine wp_loop_rounds 4 ?_)
                    go_ret
                    exact ⟨rfl, by with_reducible repeat (first | exact Below.refl _ _ | apply ba | apply bp | apply bd | apply bn)⟩
                  ·
                    rw [show all9 ⟨⟨a, b, c⟩, ⟨d, o, f⟩, ⟨g, u, i⟩⟩ l = true by simp [all9, all3, w0, w1, w2, w3, w4, w5, w6, w7, w8]]
                    go_enter Try.func36, Try.ntmps36
                    go_wp2_with (go_at_call 49; refine (rin_calls _ _ (by omega) (by omega) _).mono ?_; rintro e w' ⟨rfl, rfl⟩)
                    repeat any_goals (first | (rw [rounds_succ]; go_wp2_with (go_at_call 49; refine (rin_calls _ _ (by omega) (by omega) _).mono ?_; rintro e w' ⟨rfl, rfl⟩)) | refine wp_loop_rounds 4 ?_)
                    go_ret
                    exact ⟨rfl, by with_reducible repeat (first | exact Below.refl _ _ | apply ba | apply bp | apply bd | apply bn)⟩

theorem rby_calls (a b c x y z : Int) (hr : all3 ⟨a, b, c⟩ 1024 = true) (hv : all3 ⟨x, y, z⟩ 32768 = true) (w : World) :
    Calls Try.prog 50 #[.agg #[.int .i64 a, .int .i64 b, .int .i64 c], .agg #[.int .i64 x, .int .i64 y, .int .i64 z]] w fun e w' => e = .returned (.int .i64 (rowBy ⟨a, b, c⟩ ⟨x, y, z⟩)) ∧ Below w.heap.size w w' := by
  obtain ⟨⟨p1, p2⟩, ⟨p3, p4⟩, p5, p6⟩ := prods_bd hr hv
  simp only at p1 p2 p3 p4 p5 p6
  clear hr hv
  go_enter Try.func50, Try.ntmps50
  go_wp2_with (go_at_call 57; refine (plus_post (rdown_calls _ _ (by omega) (by omega) (by omega) _)).mono ?_; rintro e w' ⟨rfl, nx, rfl⟩)
  go_ret
  exact ⟨ret_int rfl, by with_reducible repeat (first | exact Below.refl _ _ | apply ba | apply bp | apply bd | apply bn)⟩

theorem rturned_calls (a b c d o f g u i x y z : Int) (hm : all9 ⟨⟨a, b, c⟩, ⟨d, o, f⟩, ⟨g, u, i⟩⟩ 1024 = true) (hv : all3 ⟨x, y, z⟩ 32768 = true) (w : World) :
    Calls Try.prog 38 #[.agg #[.int .i64 a, .int .i64 b, .int .i64 c, .int .i64 d, .int .i64 o, .int .i64 f, .int .i64 g, .int .i64 u, .int .i64 i], .agg #[.int .i64 x, .int .i64 y, .int .i64 z]] w fun e w' => e = .returned (.agg #[.int .i64 ((turned ⟨⟨a, b, c⟩, ⟨d, o, f⟩, ⟨g, u, i⟩⟩ ⟨x, y, z⟩).x), .int .i64 ((turned ⟨⟨a, b, c⟩, ⟨d, o, f⟩, ⟨g, u, i⟩⟩ ⟨x, y, z⟩).y), .int .i64 ((turned ⟨⟨a, b, c⟩, ⟨d, o, f⟩, ⟨g, u, i⟩⟩ ⟨x, y, z⟩).z)]) ∧ Below w.heap.size w w' := by
  obtain ⟨r1, r2, r3⟩ := all9_of hm
  simp only at r1 r2 r3
  clear hm
  go_enter Try.func38, Try.ntmps38
  go_wp2
  refine region_tail 13 (by kernel_rfl) (by kernel_rfl) ?_
  simp only [List.take_succ_cons, List.take_zero, List.drop_succ_cons, List.drop_zero]
  (repeat (go_big_quiet_step ((go_at_call 50; exact plus_of (rby_calls _ _ _ _ _ _ (by assumption) (by assumption) _)))))
  refine wpQuiet_nil ?_
  rintro _ ⟨x2, rfl⟩
  go_wp2
  exact bodyPost_ret (v := .agg #[.int .i64 (rowBy ⟨a, b, c⟩ ⟨x, y, z⟩), .int .i64 (rowBy ⟨d, o, f⟩ ⟨x, y, z⟩), .int .i64 (rowBy ⟨g, u, i⟩ ⟨x, y, z⟩)]) (by simp [results, Try.results38, go_sem, ↓IntWalk.iteOmega]) rfl ⟨rfl, by with_reducible repeat (first | exact Below.refl _ _ | apply ba | apply bp | apply bd | apply bn)⟩

end Go.Proofs.Ytondjoilcpcneaa
