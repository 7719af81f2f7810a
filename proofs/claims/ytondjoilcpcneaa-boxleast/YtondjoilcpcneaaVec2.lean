/- What the functions of package vec give, on: turned, moved, Check, CheckMat, Unit. -/
import Derived.Test.YtondjoilcpcneaaVec1
namespace Go.Proofs.Ytondjoilcpcneaa
open Go.RowKit Go.ChangeShapes Go.WideShapes Go.ChangeAt
set_option linter.unusedSimpArgs false
set_option linter.unusedVariables false
attribute [local go_sem] plus_size plus_drew dn_set dn_alloc dn_plus plus_dn cell_plus frozen_plus set_plus cell_alloc frozen_alloc set_alloc

attribute [local go_sem] ix3_0 ix3_1 ix3_2 ix9_0 ix9_1 ix9_2

theorem turned_calls (a b c d o f g u i x y z : Int) (hm : all9 ⟨⟨a, b, c⟩, ⟨d, o, f⟩, ⟨g, u, i⟩⟩ 1024 = true) (hv : all3 ⟨x, y, z⟩ 32768 = true) (w : World) :
    Calls Try.prog 42 #[.agg #[.int .i64 a, .int .i64 b, .int .i64 c, .int .i64 d, .int .i64 o, .int .i64 f, .int .i64 g, .int .i64 u, .int .i64 i], .agg #[.int .i64 x, .int .i64 y, .int .i64 z]] w fun e w' => e = .returned (.agg #[.int .i64 ((turned ⟨⟨a, b, c⟩, ⟨d, o, f⟩, ⟨g, u, i⟩⟩ ⟨x, y, z⟩).x), .int .i64 ((turned ⟨⟨a, b, c⟩, ⟨d, o, f⟩, ⟨g, u, i⟩⟩ ⟨x, y, z⟩).y), .int .i64 ((turned ⟨⟨a, b, c⟩, ⟨d, o, f⟩, ⟨g, u, i⟩⟩ ⟨x, y, z⟩).z)]) ∧ Below w.heap.size w w' := by
  obtain ⟨r1, r2, r3⟩ := all9_of hm
  simp only at r1 r2 r3
  clear hm
  go_enter Try.func42, Try.ntmps42
  go_wp2_with (first | (go_at_call 41; refine (plus_post (numbers_calls _ _ _ _)).mono ?_; rintro e w' ⟨rfl, nx, rfl⟩) | (go_at_call 51; refine (plus_post (rowBy_calls _ _ _ _ _ _ (by assumption) (by assumption) _)).mono ?_; rintro e w' ⟨rfl, nx, rfl⟩) | (go_at_call 52; refine (plus_post (point_calls _ _ _ _)).mono ?_; rintro e w' ⟨rfl, nx, rfl⟩))
  refine wp_loop_rounds 4 ?_
  repeat any_goals (rw [rounds_succ]; go_wp2_with (first | (go_at_call 41; refine (plus_post (numbers_calls _ _ _ _)).mono ?_; rintro e w' ⟨rfl, nx, rfl⟩) | (go_at_call 51; refine (plus_post (rowBy_calls _ _ _ _ _ _ (by assumption) (by assumption) _)).mono ?_; rintro e w' ⟨rfl, nx, rfl⟩) | (go_at_call 52; refine (plus_post (point_calls _ _ _ _)).mono ?_; rintro e w' ⟨rfl, nx, rfl⟩)))
  exact bodyPost_ret (v := .agg #[.int .i64 (rowBy ⟨a, b, c⟩ ⟨x, y, z⟩), .int .i64 (rowBy ⟨d, o, f⟩ ⟨x, y, z⟩), .int .i64 (rowBy ⟨g, u, i⟩ ⟨x, y, z⟩)]) (by simp [results, Try.results42, go_sem, ↓IntWalk.iteOmega]) rfl ⟨rfl, by with_reducible repeat (first | exact Below.refl _ _ | apply ba | apply bp | apply bd | apply bn)⟩

end Go.Proofs.Ytondjoilcpcneaa
