/- What vec.Image, vec.Turn give. -/
import Derived.Test.YtondjoilcpcneaaVec2
namespace Go.Proofs.Ytondjoilcpcneaa
open Go.RowKit Go.ChangeShapes Go.WideShapes Go.ChangeAt
set_option linter.unusedSimpArgs false
set_option linter.unusedVariables false
attribute [local go_sem] plus_size plus_drew dn_set dn_alloc dn_plus plus_dn cell_plus frozen_plus set_plus cell_alloc frozen_alloc set_alloc

attribute [local go_sem] ix3_0 ix3_1 ix3_2 ix9_0 ix9_1 ix9_2

theorem turn_calls (a b c d o f g u i x y z : Int) (w : World) :
    Calls Try.prog 24 #[.agg #[.int .i64 a, .int .i64 b, .int .i64 c, .int .i64 d, .int .i64 o, .int .i64 f, .int .i64 g, .int .i64 u, .int .i64 i], .agg #[.int .i64 x, .int .i64 y, .int .i64 z]] w fun e w' => e = .returned (.tuple #[.agg #[.int .i64 (((turn ⟨⟨a, b, c⟩, ⟨d, o, f⟩, ⟨g, u, i⟩⟩ ⟨x, y, z⟩).1).x), .int .i64 (((turn ⟨⟨a, b, c⟩, ⟨d, o, f⟩, ⟨g, u, i⟩⟩ ⟨x, y, z⟩).1).y), .int .i64 (((turn ⟨⟨a, b, c⟩, ⟨d, o, f⟩, ⟨g, u, i⟩⟩ ⟨x, y, z⟩).1).z)], .int .i64 ((turn ⟨⟨a, b, c⟩, ⟨d, o, f⟩, ⟨g, u, i⟩⟩ ⟨x, y, z⟩).2)]) ∧ Below w.heap.size w w' := by
  cases hm : all9 ⟨⟨a, b, c⟩, ⟨d, o, f⟩, ⟨g, u, i⟩⟩ 1024
  · rw [show turn ⟨⟨a, b, c⟩, ⟨d, o, f⟩, ⟨g, u, i⟩⟩ ⟨x, y, z⟩ = (zeroV, 2) by simp [turn, hm]]
    go_enter Try.func24, Try.ntmps24
    go_wp2_with (first | (go_at_call 39; refine (plus_post (rowsWithin_calls _ _ _ _ _ _ _ _ _ _ (by omega) (by omega) _)).mono ?_; rintro e w' ⟨rfl, nx, rfl⟩) | (go_at_call 41; refine (plus_post (numbers_calls _ _ _ _)).mono ?_; rintro e w' ⟨rfl, nx, rfl⟩) | (go_at_call 40; refine (plus_post (allWithin_calls _ _ _ _ (by omega) (by omega) _)).mono ?_; rintro e w' ⟨rfl, nx, rfl⟩) | (go_at_call 42; refine (plus_post (turned_calls _ _ _ _ _ _ _ _ _ _ _ _ (by assumption) (by assumption) _)).mono ?_; rintro e w' ⟨rfl, nx, rfl⟩))
    exact bodyPost_ret (v := .tuple #[.agg #[.int .i64 0, .int .i64 0, .int .i64 0], .int .i64 2]) (by simp [results, Try.results24, go_sem, ↓IntWalk.iteOmega]) rfl ⟨rfl, by with_reducible repeat (first | exact Below.refl _ _ | apply ba | apply bp | apply bd | apply bn)⟩
  · cases hv : all3 ⟨x, y, z⟩ 32768
    · rw [show turn ⟨⟨a, b, c⟩, ⟨d, o, f⟩, ⟨g, u, i⟩⟩ ⟨x, y, z⟩ = (zeroV, 2) by simp [turn, hm, hv]]
      go_enter Try.func24, Try.ntmps24
      go_wp2_with (first | (go_at_call 39; refine (plus_post (rowsWithin_calls _ _ _ _ _ _ _ _ _ _ (by omega) (by omega) _)).mono ?_; rintro e w' ⟨rfl, nx, rfl⟩) | (go_at_call 41; refine (plus_post (numbers_calls _ _ _ _)).mono ?_; rintro e w' ⟨rfl, nx, rfl⟩) | (go_at_call 40; refine (plus_post (allWithin_calls _ _ _ _ (by omega) (by omega) _)).mono ?_; rintro e w' ⟨rfl, nx, rfl⟩) | (go_at_call 42; refine (plus_post (turned_calls _ _ _ _ _ _ _ _ _ _ _ _ (by assumption) (by assumption) _)).mono ?_; rintro e w' ⟨rfl, nx, rfl⟩))
      exact bodyPost_ret (v := .tuple #[.agg #[.int .i64 0, .int .i64 0, .int .i64 0], .int .i64 2]) (by simp [results, Try.results24, go_sem, ↓IntWalk.iteOmega]) rfl ⟨rfl, by with_reducible repeat (first | exact Below.refl _ _ | apply ba | apply bp | apply bd | apply bn)⟩
    · rw [show turn ⟨⟨a, b, c⟩, ⟨d, o, f⟩, ⟨g, u, i⟩⟩ ⟨x, y, z⟩ = (turned ⟨⟨a, b, c⟩, ⟨d, o, f⟩, ⟨g, u, i⟩⟩ ⟨x, y, z⟩, 0) by simp [turn, hm, hv]]
      go_enter Try.func24, Try.ntmps24
      go_wp2_with (first | (go_at_call 39; refine (plus_post (rowsWithin_calls _ _ _ _ _ _ _ _ _ _ (by omega) (by omega) _)).mono ?_; rintro e w' ⟨rfl, nx, rfl⟩) | (go_at_call 41; refine (plus_post (numbers_calls _ _ _ _)).mono ?_; rintro e w' ⟨rfl, nx, rfl⟩) | (go_at_call 40; refine (plus_post (allWithin_calls _ _ _ _ (by omega) (by omega) _)).mono ?_; rintro e w' ⟨rfl, nx, rfl⟩) | (go_at_call 42; refine (plus_post (turned_calls _ _ _ _ _ _ _ _ _ _ _ _ (by assumption) (by assumption) _)).mono ?_; rintro e w' ⟨rfl, nx, rfl⟩))
      exact bodyPost_ret (v := .tuple #[.agg #[.int .i64 ((turned ⟨⟨a, b, c⟩, ⟨d, o, f⟩, ⟨g, u, i⟩⟩ ⟨x, y, z⟩).x), .int .i64 ((turned ⟨⟨a, b, c⟩, ⟨d, o, f⟩, ⟨g, u, i⟩⟩ ⟨x, y, z⟩).y), .int .i64 ((turned ⟨⟨a, b, c⟩, ⟨d, o, f⟩, ⟨g, u, i⟩⟩ ⟨x, y, z⟩).z)], .int .i64 0]) (by simp [results, Try.results24, go_sem, ↓IntWalk.iteOmega]) rfl ⟨rfl, by with_reducible repeat (first | exact Below.refl _ _ | apply ba | apply bp | apply bd | apply bn)⟩

end Go.Proofs.Ytondjoilcpcneaa
