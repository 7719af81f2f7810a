/- What the document's own functions for layer 2 give, on: Turn, Image. -/
import Derived.Test.YtokammhfkmgjeaaVec6
namespace Go.Proofs.Ytokammhfkmgjeaa
open Go.RowKit Go.ChangeShapes Go.WideShapes Go.ChangeAt
set_option linter.unusedSimpArgs false
set_option linter.unusedVariables false
attribute [local go_sem] plus_size plus_drew dn_set dn_alloc dn_plus plus_dn cell_plus frozen_plus set_plus cell_alloc frozen_alloc set_alloc

attribute [local go_sem] ix3_0 ix3_1 ix3_2 ix9_0 ix9_1 ix9_2

theorem rturn_calls (a b c d o f g u i x y z : Int) (w : World) :
    Calls Try.prog 17 #[.agg #[.int .i64 a, .int .i64 b, .int .i64 c, .int .i64 d, .int .i64 o, .int .i64 f, .int .i64 g, .int .i64 u, .int .i64 i], .agg #[.int .i64 x, .int .i64 y, .int .i64 z]] w fun e w' => e = .returned (.tuple #[.agg #[.int .i64 (((turn ⟨⟨a, b, c⟩, ⟨d, o, f⟩, ⟨g, u, i⟩⟩ ⟨x, y, z⟩).1).x), .int .i64 (((turn ⟨⟨a, b, c⟩, ⟨d, o, f⟩, ⟨g, u, i⟩⟩ ⟨x, y, z⟩).1).y), .int .i64 (((turn ⟨⟨a, b, c⟩, ⟨d, o, f⟩, ⟨g, u, i⟩⟩ ⟨x, y, z⟩).1).z)], .int .i64 ((turn ⟨⟨a, b, c⟩, ⟨d, o, f⟩, ⟨g, u, i⟩⟩ ⟨x, y, z⟩).2)]) ∧ Below w.heap.size w w' := by
  cases hm : all9 ⟨⟨a, b, c⟩, ⟨d, o, f⟩, ⟨g, u, i⟩⟩ 1024
  · rw [show turn ⟨⟨a, b, c⟩, ⟨d, o, f⟩, ⟨g, u, i⟩⟩ ⟨x, y, z⟩ = (zeroV, 2) by simp [turn, hm]]
    go_enter Try.func17, Try.ntmps17
    go_wp2_with (first | (go_at_call 34; refine (plus_post (rrows_calls _ _ _ _ _ _ _ _ _ _ (by omega) (by omega) _)).mono ?_; rintro e w' ⟨rfl, nx, rfl⟩) | (go_at_call 18; refine (plus_post (rall_calls _ _ _ _ (by omega) (by omega) _)).mono ?_; rintro e w' ⟨rfl, nx, rfl⟩) | (go_at_call 33; refine (plus_post (rturned_calls _ _ _ _ _ _ _ _ _ _ _ _ (by assumption) (by assumption) _)).mono ?_; rintro e w' ⟨rfl, nx, rfl⟩))
    exact bodyPost_ret (v := .tuple #[.agg #[.int .i64 0, .int .i64 0, .int .i64 0], .int .i64 2]) (by simp [results, Try.results17, go_sem, ↓IntWalk.iteOmega]) rfl ⟨rfl, by with_reducible repeat (first | exact Below.refl _ _ | apply ba | apply bp | apply bd | apply bn)⟩
  · cases hv : all3 ⟨x, y, z⟩ 32768
    · rw [show turn ⟨⟨a, b, c⟩, ⟨d, o, f⟩, ⟨g, u, i⟩⟩ ⟨x, y, z⟩ = (zeroV, 2) by simp [turn, hm, hv]]
      go_enter Try.func17, Try.ntmps17
      go_wp2_with (first | (go_at_call 34; refine (plus_post (rrows_calls _ _ _ _ _ _ _ _ _ _ (by omega) (by omega) _)).mono ?_; rintro e w' ⟨rfl, nx, rfl⟩) | (go_at_call 18; refine (plus_post (rall_calls _ _ _ _ (by omega) (by omega) _)).mono ?_; rintro e w' ⟨rfl, nx, rfl⟩) | (go_at_call 33; refine (plus_post (rturned_calls _ _ _ _ _ _ _ _ _ _ _ _ (by assumption) (by assumption) _)).mono ?_; rintro e w' ⟨rfl, nx, rfl⟩))
      exact bodyPost_ret (v := .tuple #[.agg #[.int .i64 0, .int .i64 0, .int .i64 0], .int .i64 2]) (by simp [results, Try.results17, go_sem, ↓IntWalk.iteOmega]) rfl ⟨rfl, by with_reducible repeat (first | exact Below.refl _ _ | apply ba | apply bp | apply bd | apply bn)⟩
    · rw [show turn ⟨⟨a, b, c⟩, ⟨d, o, f⟩, ⟨g, u, i⟩⟩ ⟨x, y, z⟩ = (turned ⟨⟨a, b, c⟩, ⟨d, o, f⟩, ⟨g, u, i⟩⟩ ⟨x, y, z⟩, 0) by simp [turn, hm, hv]]
      go_enter Try.func17, Try.ntmps17
      go_wp2_with (first | (go_at_call 34; refine (plus_post (rrows_calls _ _ _ _ _ _ _ _ _ _ (by omega) (by omega) _)).mono ?_; rintro e w' ⟨rfl, nx, rfl⟩) | (go_at_call 18; refine (plus_post (rall_calls _ _ _ _ (by omega) (by omega) _)).mono ?_; rintro e w' ⟨rfl, nx, rfl⟩) | (go_at_call 33; refine (plus_post (rturned_calls _ _ _ _ _ _ _ _ _ _ _ _ (by assumption) (by assumption) _)).mono ?_; rintro e w' ⟨rfl, nx, rfl⟩))
      exact bodyPost_ret (v := .tuple #[.agg #[.int .i64 ((turned ⟨⟨a, b, c⟩, ⟨d, o, f⟩, ⟨g, u, i⟩⟩ ⟨x, y, z⟩).x), .int .i64 ((turned ⟨⟨a, b, c⟩, ⟨d, o, f⟩, ⟨g, u, i⟩⟩ ⟨x, y, z⟩).y), .int .i64 ((turned ⟨⟨a, b, c⟩, ⟨d, o, f⟩, ⟨g, u, i⟩⟩ ⟨x, y, z⟩).z)], .int .i64 0]) (by simp [results, Try.results17, go_sem, ↓IntWalk.iteOmega]) rfl ⟨rfl, by with_reducible repeat (first | exact Below.refl _ _ | apply ba | apply bp | apply bd | apply bn)⟩

set_option maxHeartbeats 2000000 in
theorem rimage_calls (a b c d o f g u i p q r x y z : Int) (w : World) :
    Calls Try.prog 16 #[.agg #[.int .i64 a, .int .i64 b, .int .i64 c, .int .i64 d, .int .i64 o, .int .i64 f, .int .i64 g, .int .i64 u, .int .i64 i, .int .i64 p, .int .i64 q, .int .i64 r], .agg #[.int .i64 x, .int .i64 y, .int .i64 z]] w fun e w' => e = .returned (.tuple #[.agg #[.int .i64 (((image ⟨⟨⟨a, b, c⟩, ⟨d, o, f⟩, ⟨g, u, i⟩⟩, ⟨p, q, r⟩⟩ ⟨x, y, z⟩).1).x), .int .i64 (((image ⟨⟨⟨a, b, c⟩, ⟨d, o, f⟩, ⟨g, u, i⟩⟩, ⟨p, q, r⟩⟩ ⟨x, y, z⟩).1).y), .int .i64 (((image ⟨⟨⟨a, b, c⟩, ⟨d, o, f⟩, ⟨g, u, i⟩⟩, ⟨p, q, r⟩⟩ ⟨x, y, z⟩).1).z)], .int .i64 ((image ⟨⟨⟨a, b, c⟩, ⟨d, o, f⟩, ⟨g, u, i⟩⟩, ⟨p, q, r⟩⟩ ⟨x, y, z⟩).2)]) ∧ Below w.heap.size w w' := by
  cases hm : mayM ⟨⟨⟨a, b, c⟩, ⟨d, o, f⟩, ⟨g, u, i⟩⟩, ⟨p, q, r⟩⟩
  · rw [show image ⟨⟨⟨a, b, c⟩, ⟨d, o, f⟩, ⟨g, u, i⟩⟩, ⟨p, q, r⟩⟩ ⟨x, y, z⟩ = (zeroV, 20) by simp [image, hm]]
    go_enter Try.func16, Try.ntmps16
    go_wp2_with (first | (go_at_call 20; refine (plus_post (rmay_calls _ _ _ _ _ _ _ _ _ _ _ _ _)).mono ?_; rintro e w' ⟨rfl, nx, rfl⟩) | (go_at_call 18; refine (plus_post (rall_calls _ _ _ _ (by omega) (by omega) _)).mono ?_; rintro e w' ⟨rfl, nx, rfl⟩))
    exact bodyPost_ret (v := .tuple #[.agg #[.int .i64 0, .int .i64 0, .int .i64 0], .int .i64 20]) (by simp [results, Try.results16, go_sem, ↓IntWalk.iteOmega]) rfl ⟨rfl, by with_reducible repeat (first | exact Below.refl _ _ | apply ba | apply bp | apply bd | apply bn)⟩
  · obtain ⟨k1, k2⟩ := mayM_of hm
    simp only at k1 k2
    cases hv : all3 ⟨x, y, z⟩ 4096
    · rw [show image ⟨⟨⟨a, b, c⟩, ⟨d, o, f⟩, ⟨g, u, i⟩⟩, ⟨p, q, r⟩⟩ ⟨x, y, z⟩ = (zeroV, 20) by simp [image, hm, hv]]
      go_enter Try.func16, Try.ntmps16
      go_wp2_with (first | (go_at_call 20; refine (plus_post (rmay_calls _ _ _ _ _ _ _ _ _ _ _ _ _)).mono ?_; rintro e w' ⟨rfl, nx, rfl⟩) | (go_at_call 18; refine (plus_post (rall_calls _ _ _ _ (by omega) (by omega) _)).mono ?_; rintro e w' ⟨rfl, nx, rfl⟩))
      exact bodyPost_ret (v := .tuple #[.agg #[.int .i64 0, .int .i64 0, .int .i64 0], .int .i64 20]) (by simp [results, Try.results16, go_sem, ↓IntWalk.iteOmega]) rfl ⟨rfl, by with_reducible repeat (first | exact Below.refl _ _ | apply ba | apply bp | apply bd | apply bn)⟩
    · have hv2 := all3_mono (k := 32768) (by omega) hv
      have ht : all3 ⟨(turned ⟨⟨a, b, c⟩, ⟨d, o, f⟩, ⟨g, u, i⟩⟩ ⟨x, y, z⟩).x, (turned ⟨⟨a, b, c⟩, ⟨d, o, f⟩, ⟨g, u, i⟩⟩ ⟨x, y, z⟩).y, (turned ⟨⟨a, b, c⟩, ⟨d, o, f⟩, ⟨g, u, i⟩⟩ ⟨x, y, z⟩).z⟩ 393216 = true := turned_bd k1 hv2
      cases hw : all3 (moved ⟨⟨⟨a, b, c⟩, ⟨d, o, f⟩, ⟨g, u, i⟩⟩, ⟨p, q, r⟩⟩ ⟨x, y, z⟩) 4096
      · have e3 : all3 ⟨(turned ⟨⟨a, b, c⟩, ⟨d, o, f⟩, ⟨g, u, i⟩⟩ ⟨x, y, z⟩).x + p, (turned ⟨⟨a, b, c⟩, ⟨d, o, f⟩, ⟨g, u, i⟩⟩ ⟨x, y, z⟩).y + q, (turned ⟨⟨a, b, c⟩, ⟨d, o, f⟩, ⟨g, u, i⟩⟩ ⟨x, y, z⟩).z + r⟩ 4096 = false := hw
        rw [show image ⟨⟨⟨a, b, c⟩, ⟨d, o, f⟩, ⟨g, u, i⟩⟩, ⟨p, q, r⟩⟩ ⟨x, y, z⟩ = (zeroV, 20) by simp [image, hm, hv, hw]]
        go_enter Try.func16, Try.ntmps16
        go_wp2_with (first | (go_at_call 20; refine (plus_post (rmay_calls _ _ _ _ _ _ _ _ _ _ _ _ _)).mono ?_; rintro e w' ⟨rfl, nx, rfl⟩) | (go_at_call 18; refine (plus_post (rall_calls _ _ _ _ (by omega) (by omega) _)).mono ?_; rintro e w' ⟨rfl, nx, rfl⟩))
        refine region_fresh 7 6 (.cells #[.int .i64 0, .int .i64 0, .int .i64 0] 23) (by kernel_rfl) (by kernel_rfl) rfl (fun _ _ x _ _ h => by cases x <;> exact h) (fun _ _ => by kernel_rfl) ?_
        apply Exists.intro
        refine ⟨fun x0 => ?_, fun x1 x2 => ?_⟩
        · simp only [List.take_succ_cons, List.take_zero]
          (repeat (go_big_quiet_step ((first | (go_at_call 33; exact plus_of (rturned_calls _ _ _ _ _ _ _ _ _ _ _ _ (by assumption) (by assumption) _)) | (go_at_call 32; exact plus_of (rplus_calls _ _ _ _ _ _ (by assumption) (by assumption) _))))))
          exact wpQuiet_nil rfl
        simp only [List.drop_succ_cons, List.drop_zero]
        go_wp2_with (first | (go_at_call 20; refine (plus_post (rmay_calls _ _ _ _ _ _ _ _ _ _ _ _ _)).mono ?_; rintro e w' ⟨rfl, nx, rfl⟩) | (go_at_call 18; refine (plus_post (rall_calls _ _ _ _ (by omega) (by omega) _)).mono ?_; rintro e w' ⟨rfl, nx, rfl⟩))
        exact bodyPost_ret (v := .tuple #[.agg #[.int .i64 0, .int .i64 0, .int .i64 0], .int .i64 20]) (by simp [results, Try.results16, go_sem, ↓IntWalk.iteOmega]) rfl ⟨rfl, by with_reducible repeat (first | exact Below.refl _ _ | apply ba | apply bp | apply bd | apply bn)⟩
      · have e3 : all3 ⟨(turned ⟨⟨a, b, c⟩, ⟨d, o, f⟩, ⟨g, u, i⟩⟩ ⟨x, y, z⟩).x + p, (turned ⟨⟨a, b, c⟩, ⟨d, o, f⟩, ⟨g, u, i⟩⟩ ⟨x, y, z⟩).y + q, (turned ⟨⟨a, b, c⟩, ⟨d, o, f⟩, ⟨g, u, i⟩⟩ ⟨x, y, z⟩).z + r⟩ 4096 = true := hw
        rw [show image ⟨⟨⟨a, b, c⟩, ⟨d, o, f⟩, ⟨g, u, i⟩⟩, ⟨p, q, r⟩⟩ ⟨x, y, z⟩ = (moved ⟨⟨⟨a, b, c⟩, ⟨d, o, f⟩, ⟨g, u, i⟩⟩, ⟨p, q, r⟩⟩ ⟨x, y, z⟩, 0) by simp [image, hm, hv, hw]]
        go_enter Try.func16, Try.ntmps16
        go_wp2_with (first | (go_at_call 20; refine (plus_post (rmay_calls _ _ _ _ _ _ _ _ _ _ _ _ _)).mono ?_; rintro e w' ⟨rfl, nx, rfl⟩) | (go_at_call 18; refine (plus_post (rall_calls _ _ _ _ (by omega) (by omega) _)).mono ?_; rintro e w' ⟨rfl, nx, rfl⟩))
        refine region_fresh 7 6 (.cells #[.int .i64 0, .int .i64 0, .int .i64 0] 23) (by kernel_rfl) (by kernel_rfl) rfl (fun _ _ x _ _ h => by cases x <;> exact h) (fun _ _ => by kernel_rfl) ?_
        apply Exists.intro
        refine ⟨fun x0 => ?_, fun x1 x2 => ?_⟩
        · simp only [List.take_succ_cons, List.take_zero]
          (repeat (go_big_quiet_step ((first | (go_at_call 33; exact plus_of (rturned_calls _ _ _ _ _ _ _ _ _ _ _ _ (by assumption) (by assumption) _)) | (go_at_call 32; exact plus_of (rplus_calls _ _ _ _ _ _ (by assumption) (by assumption) _))))))
          exact wpQuiet_nil rfl
        simp only [List.drop_succ_cons, List.drop_zero]
        go_wp2_with (first | (go_at_call 20; refine (plus_post (rmay_calls _ _ _ _ _ _ _ _ _ _ _ _ _)).mono ?_; rintro e w' ⟨rfl, nx, rfl⟩) | (go_at_call 18; refine (plus_post (rall_calls _ _ _ _ (by omega) (by omega) _)).mono ?_; rintro e w' ⟨rfl, nx, rfl⟩))
        exact bodyPost_ret (v := .tuple #[.agg #[.int .i64 ((turned ⟨⟨a, b, c⟩, ⟨d, o, f⟩, ⟨g, u, i⟩⟩ ⟨x, y, z⟩).x + p), .int .i64 ((turned ⟨⟨a, b, c⟩, ⟨d, o, f⟩, ⟨g, u, i⟩⟩ ⟨x, y, z⟩).y + q), .int .i64 ((turned ⟨⟨a, b, c⟩, ⟨d, o, f⟩, ⟨g, u, i⟩⟩ ⟨x, y, z⟩).z + r)], .int .i64 0]) (by simp [results, Try.results16, go_sem, ↓IntWalk.iteOmega]) rfl ⟨rfl, by with_reducible repeat (first | exact Below.refl _ _ | apply ba | apply bp | apply bd | apply bn)⟩

end Go.Proofs.Ytokammhfkmgjeaa
