/- What box.Turned gives, all ways. -/
import Derived.Test.YtondjoilcpcneaaBox7
namespace Go.Proofs.Ytondjoilcpcneaa
open Go.RowKit Go.ChangeShapes Go.WideShapes Go.ChangeAt
set_option linter.unusedSimpArgs false
set_option linter.unusedVariables false
attribute [local go_sem] plus_size plus_drew dn_set dn_alloc dn_plus plus_dn cell_plus frozen_plus set_plus cell_alloc frozen_alloc set_alloc

set_option maxHeartbeats 1000000 in
theorem bturned_calls (a b c d o f g u i p q r s t v : Int) (w : World) :
    Calls Try.prog 12 #[.agg #[.int .i64 a, .int .i64 b, .int .i64 c, .int .i64 d, .int .i64 o, .int .i64 f, .int .i64 g, .int .i64 u, .int .i64 i], .agg #[.int .i64 p, .int .i64 q, .int .i64 r, .int .i64 s, .int .i64 t, .int .i64 v]] w fun e w' => e = .returned (.tuple #[.agg #[.int .i64 ((turnedR ⟨⟨a, b, c⟩, ⟨d, o, f⟩, ⟨g, u, i⟩⟩ ⟨⟨p, q, r⟩, ⟨s, t, v⟩⟩).1).lo.x, .int .i64 ((turnedR ⟨⟨a, b, c⟩, ⟨d, o, f⟩, ⟨g, u, i⟩⟩ ⟨⟨p, q, r⟩, ⟨s, t, v⟩⟩).1).lo.y, .int .i64 ((turnedR ⟨⟨a, b, c⟩, ⟨d, o, f⟩, ⟨g, u, i⟩⟩ ⟨⟨p, q, r⟩, ⟨s, t, v⟩⟩).1).lo.z, .int .i64 ((turnedR ⟨⟨a, b, c⟩, ⟨d, o, f⟩, ⟨g, u, i⟩⟩ ⟨⟨p, q, r⟩, ⟨s, t, v⟩⟩).1).hi.x, .int .i64 ((turnedR ⟨⟨a, b, c⟩, ⟨d, o, f⟩, ⟨g, u, i⟩⟩ ⟨⟨p, q, r⟩, ⟨s, t, v⟩⟩).1).hi.y, .int .i64 ((turnedR ⟨⟨a, b, c⟩, ⟨d, o, f⟩, ⟨g, u, i⟩⟩ ⟨⟨p, q, r⟩, ⟨s, t, v⟩⟩).1).hi.z], .int .i64 (turnedR ⟨⟨a, b, c⟩, ⟨d, o, f⟩, ⟨g, u, i⟩⟩ ⟨⟨p, q, r⟩, ⟨s, t, v⟩⟩).2]) ∧ Below w.heap.size w w' := by
  cases hm : all9 ⟨⟨a, b, c⟩, ⟨d, o, f⟩, ⟨g, u, i⟩⟩ 1024
  · rw [show turnedR ⟨⟨a, b, c⟩, ⟨d, o, f⟩, ⟨g, u, i⟩⟩ ⟨⟨p, q, r⟩, ⟨s, t, v⟩⟩ = (zeroBx, 2) by simp [turnedR, hm]]
    go_enter Try.func12, Try.ntmps12
    go_wp2_with (first | (go_at_call 28; refine (plus_post (rowsMay_calls _ _ _ _ _ _ _ _ _ _)).mono ?_; rintro e w' ⟨rfl, nx, rfl⟩) | (go_at_call 15; refine (plus_post (bcheck_calls _ _ _ _ _ _ _)).mono ?_; rintro e w' ⟨rfl, nx, rfl⟩))
    exact bodyPost_ret (v := .tuple #[.agg #[.int .i64 0, .int .i64 0, .int .i64 0, .int .i64 0, .int .i64 0, .int .i64 0], .int .i64 2]) (by simp [results, Try.results12, go_sem, ↓IntWalk.iteOmega]) rfl ⟨rfl, by with_reducible repeat (first | exact Below.refl _ _ | apply ba | apply bp | apply bd | apply bn)⟩
  cases hb : mayBx ⟨⟨p, q, r⟩, ⟨s, t, v⟩⟩
  · rw [show turnedR ⟨⟨a, b, c⟩, ⟨d, o, f⟩, ⟨g, u, i⟩⟩ ⟨⟨p, q, r⟩, ⟨s, t, v⟩⟩ = (zeroBx, 8) by simp [turnedR, hm, hb]]
    have k1 : chkBx ⟨⟨p, q, r⟩, ⟨s, t, v⟩⟩ = 8 := if_neg (by rw [hb]; simp)
    go_enter Try.func12, Try.ntmps12
    go_wp2_with (first | (go_at_call 28; refine (plus_post (rowsMay_calls _ _ _ _ _ _ _ _ _ _)).mono ?_; rintro e w' ⟨rfl, nx, rfl⟩) | (go_at_call 15; refine (plus_post (bcheck_calls _ _ _ _ _ _ _)).mono ?_; rintro e w' ⟨rfl, nx, rfl⟩))
    exact bodyPost_ret (v := .tuple #[.agg #[.int .i64 0, .int .i64 0, .int .i64 0, .int .i64 0, .int .i64 0, .int .i64 0], .int .i64 8]) (by simp [results, Try.results12, go_sem, ↓IntWalk.iteOmega]) rfl ⟨rfl, by with_reducible repeat (first | exact Below.refl _ _ | apply ba | apply bp | apply bd | apply bn)⟩
  cases ht : mayBx (turnedBx ⟨⟨a, b, c⟩, ⟨d, o, f⟩, ⟨g, u, i⟩⟩ ⟨⟨p, q, r⟩, ⟨s, t, v⟩⟩)
  · rw [show turnedR ⟨⟨a, b, c⟩, ⟨d, o, f⟩, ⟨g, u, i⟩⟩ ⟨⟨p, q, r⟩, ⟨s, t, v⟩⟩ = (zeroBx, 20) by simp [turnedR, hm, hb, ht]]
    exact bturned_walk a b c d o f g u i p q r s t v _ _ _ _ _ _ 8 w hm hb rfl rfl rfl rfl rfl rfl (if_neg fun h => by rw [show mayBx (turnedBx ⟨⟨a, b, c⟩, ⟨d, o, f⟩, ⟨g, u, i⟩⟩ ⟨⟨p, q, r⟩, ⟨s, t, v⟩⟩) = true from h] at ht; cases ht)
  · rw [show turnedR ⟨⟨a, b, c⟩, ⟨d, o, f⟩, ⟨g, u, i⟩⟩ ⟨⟨p, q, r⟩, ⟨s, t, v⟩⟩ = (turnedBx ⟨⟨a, b, c⟩, ⟨d, o, f⟩, ⟨g, u, i⟩⟩ ⟨⟨p, q, r⟩, ⟨s, t, v⟩⟩, 0) by simp [turnedR, hm, hb, ht]]
    exact bturned_walk a b c d o f g u i p q r s t v _ _ _ _ _ _ 0 w hm hb rfl rfl rfl rfl rfl rfl (if_pos ht)

end Go.Proofs.Ytondjoilcpcneaa
