/- What the functions of package vec give, on: turned, moved, Check, CheckMat, Unit. -/
import Derived.Test.YtokammhfkmgjeaaVec1
namespace Go.Proofs.Ytokammhfkmgjeaa
open Go.RowKit Go.ChangeShapes Go.WideShapes Go.ChangeAt
set_option linter.unusedSimpArgs false
set_option linter.unusedVariables false
attribute [local go_sem] plus_size plus_drew dn_set dn_alloc dn_plus plus_dn cell_plus frozen_plus set_plus cell_alloc frozen_alloc set_alloc

attribute [local go_sem] ix3_0 ix3_1 ix3_2 ix9_0 ix9_1 ix9_2

theorem turned_calls (a b c d o f g u i x y z : Int) (hm : all9 ⟨⟨a, b, c⟩, ⟨d, o, f⟩, ⟨g, u, i⟩⟩ 1024 = true) (hv : all3 ⟨x, y, z⟩ 32768 = true) (w : World) :
    Calls Try.prog 29 #[.agg #[.int .i64 a, .int .i64 b, .int .i64 c, .int .i64 d, .int .i64 o, .int .i64 f, .int .i64 g, .int .i64 u, .int .i64 i], .agg #[.int .i64 x, .int .i64 y, .int .i64 z]] w fun e w' => e = .returned (.agg #[.int .i64 ((turned ⟨⟨a, b, c⟩, ⟨d, o, f⟩, ⟨g, u, i⟩⟩ ⟨x, y, z⟩).x), .int .i64 ((turned ⟨⟨a, b, c⟩, ⟨d, o, f⟩, ⟨g, u, i⟩⟩ ⟨x, y, z⟩).y), .int .i64 ((turned ⟨⟨a, b, c⟩, ⟨d, o, f⟩, ⟨g, u, i⟩⟩ ⟨x, y, z⟩).z)]) ∧ Below w.heap.size w w' := by
  obtain ⟨r1, r2, r3⟩ := all9_of hm
  simp only at r1 r2 r3
  clear hm
  go_enter Try.func29, Try.ntmps29
  go_wp2_with (first | (go_at_call 28; refine (plus_post (numbers_calls _ _ _ _)).mono ?_; rintro e w' ⟨rfl, nx, rfl⟩) | (go_at_call 38; refine (plus_post (rowBy_calls _ _ _ _ _ _ (by assumption) (by assumption) _)).mono ?_; rintro e w' ⟨rfl, nx, rfl⟩) | (go_at_call 39; refine (plus_post (point_calls _ _ _ _)).mono ?_; rintro e w' ⟨rfl, nx, rfl⟩))
  refine wp_loop_rounds 4 ?_
  repeat any_goals (rw [rounds_succ]; go_wp2_with (first | (go_at_call 28; refine (plus_post (numbers_calls _ _ _ _)).mono ?_; rintro e w' ⟨rfl, nx, rfl⟩) | (go_at_call 38; refine (plus_post (rowBy_calls _ _ _ _ _ _ (by assumption) (by assumption) _)).mono ?_; rintro e w' ⟨rfl, nx, rfl⟩) | (go_at_call 39; refine (plus_post (point_calls _ _ _ _)).mono ?_; rintro e w' ⟨rfl, nx, rfl⟩)))
  exact bodyPost_ret (v := .agg #[.int .i64 (rowBy ⟨a, b, c⟩ ⟨x, y, z⟩), .int .i64 (rowBy ⟨d, o, f⟩ ⟨x, y, z⟩), .int .i64 (rowBy ⟨g, u, i⟩ ⟨x, y, z⟩)]) (by simp [results, Try.results29, go_sem, ↓IntWalk.iteOmega]) rfl ⟨rfl, by with_reducible repeat (first | exact Below.refl _ _ | apply ba | apply bp | apply bd | apply bn)⟩

theorem moved_calls (a b c d o f g u i p q r x y z : Int) (hm : all9 ⟨⟨a, b, c⟩, ⟨d, o, f⟩, ⟨g, u, i⟩⟩ 1024 = true) (ht : all3 ⟨p, q, r⟩ 4096 = true) (hv : all3 ⟨x, y, z⟩ 32768 = true) (w : World) :
    Calls Try.prog 31 #[.agg #[.int .i64 a, .int .i64 b, .int .i64 c, .int .i64 d, .int .i64 o, .int .i64 f, .int .i64 g, .int .i64 u, .int .i64 i, .int .i64 p, .int .i64 q, .int .i64 r], .agg #[.int .i64 x, .int .i64 y, .int .i64 z]] w fun e w' => e = .returned (.agg #[.int .i64 ((moved ⟨⟨⟨a, b, c⟩, ⟨d, o, f⟩, ⟨g, u, i⟩⟩, ⟨p, q, r⟩⟩ ⟨x, y, z⟩).x), .int .i64 ((moved ⟨⟨⟨a, b, c⟩, ⟨d, o, f⟩, ⟨g, u, i⟩⟩, ⟨p, q, r⟩⟩ ⟨x, y, z⟩).y), .int .i64 ((moved ⟨⟨⟨a, b, c⟩, ⟨d, o, f⟩, ⟨g, u, i⟩⟩, ⟨p, q, r⟩⟩ ⟨x, y, z⟩).z)]) ∧ Below w.heap.size w w' := by
  obtain ⟨⟨t1, t2⟩, ⟨t3, t4⟩, t5, t6⟩ := all3_of ht
  obtain ⟨⟨u1, u2⟩, ⟨u3, u4⟩, u5, u6⟩ := all3_of (turned_bd hm hv)
  simp only at t1 t2 t3 t4 t5 t6
  go_enter Try.func31, Try.ntmps31
  go_wp2_with (go_at_call 29; refine (plus_post (turned_calls _ _ _ _ _ _ _ _ _ _ _ _ (by assumption) (by assumption) _)).mono ?_; rintro e w' ⟨rfl, nx, rfl⟩)
  exact bodyPost_ret (v := .agg #[.int .i64 ((turned ⟨⟨a, b, c⟩, ⟨d, o, f⟩, ⟨g, u, i⟩⟩ ⟨x, y, z⟩).x + p), .int .i64 ((turned ⟨⟨a, b, c⟩, ⟨d, o, f⟩, ⟨g, u, i⟩⟩ ⟨x, y, z⟩).y + q), .int .i64 ((turned ⟨⟨a, b, c⟩, ⟨d, o, f⟩, ⟨g, u, i⟩⟩ ⟨x, y, z⟩).z + r)]) (by simp [results, Try.results31, go_sem, ↓IntWalk.iteOmega]) rfl ⟨rfl, by with_reducible repeat (first | exact Below.refl _ _ | apply ba | apply bp | apply bd | apply bn)⟩

theorem check_calls2 (x y z : Int) (w : World) :
    Calls Try.prog 15 #[.agg #[.int .i64 x, .int .i64 y, .int .i64 z]] w fun e w' => e = .returned (.int .i64 (chkV ⟨x, y, z⟩)) ∧ Below w.heap.size w w' := by
  cases hv : all3 ⟨x, y, z⟩ 4096
  · rw [show chkV ⟨x, y, z⟩ = 20 by simp [chkV, hv]]
    go_enter Try.func15, Try.ntmps15
    go_wp2_with (first | (go_at_call 28; refine (plus_post (numbers_calls _ _ _ _)).mono ?_; rintro e w' ⟨rfl, nx, rfl⟩) | (go_at_call 27; refine (plus_post (allWithin_calls _ _ _ _ (by omega) (by omega) _)).mono ?_; rintro e w' ⟨rfl, nx, rfl⟩))
    go_ret
    exact ⟨rfl, by with_reducible repeat (first | exact Below.refl _ _ | apply ba | apply bp | apply bd | apply bn)⟩
  · rw [show chkV ⟨x, y, z⟩ = 0 by simp [chkV, hv]]
    go_enter Try.func15, Try.ntmps15
    go_wp2_with (first | (go_at_call 28; refine (plus_post (numbers_calls _ _ _ _)).mono ?_; rintro e w' ⟨rfl, nx, rfl⟩) | (go_at_call 27; refine (plus_post (allWithin_calls _ _ _ _ (by omega) (by omega) _)).mono ?_; rintro e w' ⟨rfl, nx, rfl⟩))
    go_ret
    exact ⟨rfl, by with_reducible repeat (first | exact Below.refl _ _ | apply ba | apply bp | apply bd | apply bn)⟩

theorem checkMat_calls (a b c d o f g u i p q r : Int) (w : World) :
    Calls Try.prog 19 #[.agg #[.int .i64 a, .int .i64 b, .int .i64 c, .int .i64 d, .int .i64 o, .int .i64 f, .int .i64 g, .int .i64 u, .int .i64 i, .int .i64 p, .int .i64 q, .int .i64 r]] w fun e w' => e = .returned (.int .i64 (chkM ⟨⟨⟨a, b, c⟩, ⟨d, o, f⟩, ⟨g, u, i⟩⟩, ⟨p, q, r⟩⟩)) ∧ Below w.heap.size w w' := by
  cases hm : all9 ⟨⟨a, b, c⟩, ⟨d, o, f⟩, ⟨g, u, i⟩⟩ 1024
  · rw [show chkM ⟨⟨⟨a, b, c⟩, ⟨d, o, f⟩, ⟨g, u, i⟩⟩, ⟨p, q, r⟩⟩ = 20 by simp [chkM, mayM, hm]]
    go_enter Try.func19, Try.ntmps19
    go_wp2_with (first | (go_at_call 26; refine (plus_post (rowsWithin_calls _ _ _ _ _ _ _ _ _ _ (by omega) (by omega) _)).mono ?_; rintro e w' ⟨rfl, nx, rfl⟩) | (go_at_call 15; refine (plus_post (check_calls2 _ _ _ _)).mono ?_; rintro e w' ⟨rfl, nx, rfl⟩))
    go_ret
    exact ⟨rfl, by with_reducible repeat (first | exact Below.refl _ _ | apply ba | apply bp | apply bd | apply bn)⟩
  · rw [show chkM ⟨⟨⟨a, b, c⟩, ⟨d, o, f⟩, ⟨g, u, i⟩⟩, ⟨p, q, r⟩⟩ = chkV ⟨p, q, r⟩ by simp [chkM, chkV, mayM, hm]]
    go_enter Try.func19, Try.ntmps19
    go_wp2_with (first | (go_at_call 26; refine (plus_post (rowsWithin_calls _ _ _ _ _ _ _ _ _ _ (by omega) (by omega) _)).mono ?_; rintro e w' ⟨rfl, nx, rfl⟩) | (go_at_call 15; refine (plus_post (check_calls2 _ _ _ _)).mono ?_; rintro e w' ⟨rfl, nx, rfl⟩))
    go_ret
    exact ⟨rfl, by with_reducible repeat (first | exact Below.refl _ _ | apply ba | apply bp | apply bd | apply bn)⟩

theorem unit_calls (w : World) :
    Calls Try.prog 21 #[] w fun e w' => e = .returned (.agg #[.int .i64 256, .int .i64 0, .int .i64 0, .int .i64 0, .int .i64 256, .int .i64 0, .int .i64 0, .int .i64 0, .int .i64 256, .int .i64 0, .int .i64 0, .int .i64 0]) ∧ Below w.heap.size w w' := by
  go_enter Try.func21, Try.ntmps21
  go_wp2
  exact bodyPost_ret (v := .agg #[.int .i64 256, .int .i64 0, .int .i64 0, .int .i64 0, .int .i64 256, .int .i64 0, .int .i64 0, .int .i64 0, .int .i64 256, .int .i64 0, .int .i64 0, .int .i64 0]) (by simp [results, Try.results21, go_sem, ↓IntWalk.iteOmega]) rfl ⟨rfl, by with_reducible repeat (first | exact Below.refl _ _ | apply ba | apply bp | apply bd | apply bn)⟩

theorem flipped_calls (a b c d o f g u i : Int) (w : World) :
    Calls Try.prog 40 #[.agg #[.int .i64 a, .int .i64 b, .int .i64 c, .int .i64 d, .int .i64 o, .int .i64 f, .int .i64 g, .int .i64 u, .int .i64 i]] w fun e w' => e = .returned (.agg #[.int .i64 a, .int .i64 d, .int .i64 g, .int .i64 b, .int .i64 o, .int .i64 u, .int .i64 c, .int .i64 f, .int .i64 i]) ∧ Below w.heap.size w w' := by
  go_enter Try.func40, Try.ntmps40
  go_wp2
  repeat any_goals (first | (rw [rounds_succ]; go_wp2) | refine wp_loop_rounds 4 ?_)
  exact bodyPost_ret (v := .agg #[.int .i64 a, .int .i64 d, .int .i64 g, .int .i64 b, .int .i64 o, .int .i64 u, .int .i64 c, .int .i64 f, .int .i64 i]) (by simp [results, Try.results40, go_sem, ↓IntWalk.iteOmega]) rfl ⟨rfl, by with_reducible repeat (first | exact Below.refl _ _ | apply ba | apply bp | apply bd | apply bn)⟩

end Go.Proofs.Ytokammhfkmgjeaa
