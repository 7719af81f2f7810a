/- What vec.Mul gives. -/
import Derived.Test.YtokammhfkmgjeaaFresh
import Derived.Test.YtokammhfkmgjeaaVec3
import Derived.Test.YtokammhfkmgjeaaVec4
namespace Go.Proofs.Ytokammhfkmgjeaa
open Go.RowKit Go.ChangeShapes Go.WideShapes Go.ChangeAt
set_option linter.unusedSimpArgs false
set_option linter.unusedVariables false
attribute [local go_sem] plus_size plus_drew dn_set dn_alloc dn_plus plus_dn cell_plus frozen_plus set_plus cell_alloc frozen_alloc set_alloc

attribute [local go_sem] ix3_0 ix3_1 ix3_2 ix9_0 ix9_1 ix9_2

set_option maxHeartbeats 4000000 in
theorem mul_calls (a b c d o f g u i p q r a2 b2 c2 d2 o2 f2 g2 u2 i2 p2 q2 r2 : Int) (w : World) :
    Calls Try.prog 11 #[.agg #[.int .i64 a, .int .i64 b, .int .i64 c, .int .i64 d, .int .i64 o, .int .i64 f, .int .i64 g, .int .i64 u, .int .i64 i, .int .i64 p, .int .i64 q, .int .i64 r], .agg #[.int .i64 a2, .int .i64 b2, .int .i64 c2, .int .i64 d2, .int .i64 o2, .int .i64 f2, .int .i64 g2, .int .i64 u2, .int .i64 i2, .int .i64 p2, .int .i64 q2, .int .i64 r2]] w fun e w' => e = .returned (.tuple #[.agg #[.int .i64 (((mul ⟨⟨⟨a, b, c⟩, ⟨d, o, f⟩, ⟨g, u, i⟩⟩, ⟨p, q, r⟩⟩ ⟨⟨⟨a2, b2, c2⟩, ⟨d2, o2, f2⟩, ⟨g2, u2, i2⟩⟩, ⟨p2, q2, r2⟩⟩).1).m.a.x), .int .i64 (((mul ⟨⟨⟨a, b, c⟩, ⟨d, o, f⟩, ⟨g, u, i⟩⟩, ⟨p, q, r⟩⟩ ⟨⟨⟨a2, b2, c2⟩, ⟨d2, o2, f2⟩, ⟨g2, u2, i2⟩⟩, ⟨p2, q2, r2⟩⟩).1).m.a.y), .int .i64 (((mul ⟨⟨⟨a, b, c⟩, ⟨d, o, f⟩, ⟨g, u, i⟩⟩, ⟨p, q, r⟩⟩ ⟨⟨⟨a2, b2, c2⟩, ⟨d2, o2, f2⟩, ⟨g2, u2, i2⟩⟩, ⟨p2, q2, r2⟩⟩).1).m.a.z), .int .i64 (((mul ⟨⟨⟨a, b, c⟩, ⟨d, o, f⟩, ⟨g, u, i⟩⟩, ⟨p, q, r⟩⟩ ⟨⟨⟨a2, b2, c2⟩, ⟨d2, o2, f2⟩, ⟨g2, u2, i2⟩⟩, ⟨p2, q2, r2⟩⟩).1).m.b.x), .int .i64 (((mul ⟨⟨⟨a, b, c⟩, ⟨d, o, f⟩, ⟨g, u, i⟩⟩, ⟨p, q, r⟩⟩ ⟨⟨⟨a2, b2, c2⟩, ⟨d2, o2, f2⟩, ⟨g2, u2, i2⟩⟩, ⟨p2, q2, r2⟩⟩).1).m.b.y), .int .i64 (((mul ⟨⟨⟨a, b, c⟩, ⟨d, o, f⟩, ⟨g, u, i⟩⟩, ⟨p, q, r⟩⟩ ⟨⟨⟨a2, b2, c2⟩, ⟨d2, o2, f2⟩, ⟨g2, u2, i2⟩⟩, ⟨p2, q2, r2⟩⟩).1).m.b.z), .int .i64 (((mul ⟨⟨⟨a, b, c⟩, ⟨d, o, f⟩, ⟨g, u, i⟩⟩, ⟨p, q, r⟩⟩ ⟨⟨⟨a2, b2, c2⟩, ⟨d2, o2, f2⟩, ⟨g2, u2, i2⟩⟩, ⟨p2, q2, r2⟩⟩).1).m.c.x), .int .i64 (((mul ⟨⟨⟨a, b, c⟩, ⟨d, o, f⟩, ⟨g, u, i⟩⟩, ⟨p, q, r⟩⟩ ⟨⟨⟨a2, b2, c2⟩, ⟨d2, o2, f2⟩, ⟨g2, u2, i2⟩⟩, ⟨p2, q2, r2⟩⟩).1).m.c.y), .int .i64 (((mul ⟨⟨⟨a, b, c⟩, ⟨d, o, f⟩, ⟨g, u, i⟩⟩, ⟨p, q, r⟩⟩ ⟨⟨⟨a2, b2, c2⟩, ⟨d2, o2, f2⟩, ⟨g2, u2, i2⟩⟩, ⟨p2, q2, r2⟩⟩).1).m.c.z), .int .i64 (((mul ⟨⟨⟨a, b, c⟩, ⟨d, o, f⟩, ⟨g, u, i⟩⟩, ⟨p, q, r⟩⟩ ⟨⟨⟨a2, b2, c2⟩, ⟨d2, o2, f2⟩, ⟨g2, u2, i2⟩⟩, ⟨p2, q2, r2⟩⟩).1).t.x), .int .i64 (((mul ⟨⟨⟨a, b, c⟩, ⟨d, o, f⟩, ⟨g, u, i⟩⟩, ⟨p, q, r⟩⟩ ⟨⟨⟨a2, b2, c2⟩, ⟨d2, o2, f2⟩, ⟨g2, u2, i2⟩⟩, ⟨p2, q2, r2⟩⟩).1).t.y), .int .i64 (((mul ⟨⟨⟨a, b, c⟩, ⟨d, o, f⟩, ⟨g, u, i⟩⟩, ⟨p, q, r⟩⟩ ⟨⟨⟨a2, b2, c2⟩, ⟨d2, o2, f2⟩, ⟨g2, u2, i2⟩⟩, ⟨p2, q2, r2⟩⟩).1).t.z)], .int .i64 ((mul ⟨⟨⟨a, b, c⟩, ⟨d, o, f⟩, ⟨g, u, i⟩⟩, ⟨p, q, r⟩⟩ ⟨⟨⟨a2, b2, c2⟩, ⟨d2, o2, f2⟩, ⟨g2, u2, i2⟩⟩, ⟨p2, q2, r2⟩⟩).2)]) ∧ Below w.heap.size w w' := by
  cases hm : mayM ⟨⟨⟨a, b, c⟩, ⟨d, o, f⟩, ⟨g, u, i⟩⟩, ⟨p, q, r⟩⟩
  · have e1 : chkM ⟨⟨⟨a, b, c⟩, ⟨d, o, f⟩, ⟨g, u, i⟩⟩, ⟨p, q, r⟩⟩ = 20 := by simp [chkM, hm]
    rw [show mul ⟨⟨⟨a, b, c⟩, ⟨d, o, f⟩, ⟨g, u, i⟩⟩, ⟨p, q, r⟩⟩ ⟨⟨⟨a2, b2, c2⟩, ⟨d2, o2, f2⟩, ⟨g2, u2, i2⟩⟩, ⟨p2, q2, r2⟩⟩ = (zeroM, 20) by simp [mul, hm]]
    go_enter Try.func11, Try.ntmps11
    go_wp2_with (go_at_call 19; refine (plus_post (checkMat_calls _ _ _ _ _ _ _ _ _ _ _ _ _)).mono ?_; rintro e w' ⟨rfl, nx, rfl⟩)
    exact bodyPost_ret (v := .tuple #[.agg #[.int .i64 0, .int .i64 0, .int .i64 0, .int .i64 0, .int .i64 0, .int .i64 0, .int .i64 0, .int .i64 0, .int .i64 0, .int .i64 0, .int .i64 0, .int .i64 0], .int .i64 20]) (by simp [results, Try.results11, go_sem, ↓IntWalk.iteOmega]) rfl ⟨rfl, by with_reducible repeat (first | exact Below.refl _ _ | apply ba | apply bp | apply bd | apply bn)⟩
  · have e1 : chkM ⟨⟨⟨a, b, c⟩, ⟨d, o, f⟩, ⟨g, u, i⟩⟩, ⟨p, q, r⟩⟩ = 0 := by simp [chkM, hm]
    obtain ⟨k1, k2⟩ := mayM_of hm
    simp only at k1 k2
    cases hn : mayM ⟨⟨⟨a2, b2, c2⟩, ⟨d2, o2, f2⟩, ⟨g2, u2, i2⟩⟩, ⟨p2, q2, r2⟩⟩
    · have e2 : chkM ⟨⟨⟨a2, b2, c2⟩, ⟨d2, o2, f2⟩, ⟨g2, u2, i2⟩⟩, ⟨p2, q2, r2⟩⟩ = 20 := by simp [chkM, hn]
      rw [show mul ⟨⟨⟨a, b, c⟩, ⟨d, o, f⟩, ⟨g, u, i⟩⟩, ⟨p, q, r⟩⟩ ⟨⟨⟨a2, b2, c2⟩, ⟨d2, o2, f2⟩, ⟨g2, u2, i2⟩⟩, ⟨p2, q2, r2⟩⟩ = (zeroM, 20) by simp [mul, hm, hn]]
      go_enter Try.func11, Try.ntmps11
      go_wp2_with (go_at_call 19; refine (plus_post (checkMat_calls _ _ _ _ _ _ _ _ _ _ _ _ _)).mono ?_; rintro e w' ⟨rfl, nx, rfl⟩)
      exact bodyPost_ret (v := .tuple #[.agg #[.int .i64 0, .int .i64 0, .int .i64 0, .int .i64 0, .int .i64 0, .int .i64 0, .int .i64 0, .int .i64 0, .int .i64 0, .int .i64 0, .int .i64 0, .int .i64 0], .int .i64 20]) (by simp [results, Try.results11, go_sem, ↓IntWalk.iteOmega]) rfl ⟨rfl, by with_reducible repeat (first | exact Below.refl _ _ | apply ba | apply bp | apply bd | apply bn)⟩
    · have e2 : chkM ⟨⟨⟨a2, b2, c2⟩, ⟨d2, o2, f2⟩, ⟨g2, u2, i2⟩⟩, ⟨p2, q2, r2⟩⟩ = 0 := by simp [chkM, hn]
      obtain ⟨l1, l2⟩ := mayM_of hn
      simp only at l1 l2
      have l3 := all3_mono (k := 32768) (by omega) l2
      cases hw : mayM (mulM ⟨⟨⟨a, b, c⟩, ⟨d, o, f⟩, ⟨g, u, i⟩⟩, ⟨p, q, r⟩⟩ ⟨⟨⟨a2, b2, c2⟩, ⟨d2, o2, f2⟩, ⟨g2, u2, i2⟩⟩, ⟨p2, q2, r2⟩⟩)
      · have e3 : chkM ⟨⟨⟨rowBy ⟨a, b, c⟩ ⟨a2, d2, g2⟩, rowBy ⟨a, b, c⟩ ⟨b2, o2, u2⟩, rowBy ⟨a, b, c⟩ ⟨c2, f2, i2⟩⟩, ⟨rowBy ⟨d, o, f⟩ ⟨a2, d2, g2⟩, rowBy ⟨d, o, f⟩ ⟨b2, o2, u2⟩, rowBy ⟨d, o, f⟩ ⟨c2, f2, i2⟩⟩, ⟨rowBy ⟨g, u, i⟩ ⟨a2, d2, g2⟩, rowBy ⟨g, u, i⟩ ⟨b2, o2, u2⟩, rowBy ⟨g, u, i⟩ ⟨c2, f2, i2⟩⟩⟩, ⟨(moved ⟨⟨⟨a, b, c⟩, ⟨d, o, f⟩, ⟨g, u, i⟩⟩, ⟨p, q, r⟩⟩ ⟨p2, q2, r2⟩).x, (moved ⟨⟨⟨a, b, c⟩, ⟨d, o, f⟩, ⟨g, u, i⟩⟩, ⟨p, q, r⟩⟩ ⟨p2, q2, r2⟩).y, (moved ⟨⟨⟨a, b, c⟩, ⟨d, o, f⟩, ⟨g, u, i⟩⟩, ⟨p, q, r⟩⟩ ⟨p2, q2, r2⟩).z⟩⟩ = 20 := (show chkM (mulM ⟨⟨⟨a, b, c⟩, ⟨d, o, f⟩, ⟨g, u, i⟩⟩, ⟨p, q, r⟩⟩ ⟨⟨⟨a2, b2, c2⟩, ⟨d2, o2, f2⟩, ⟨g2, u2, i2⟩⟩, ⟨p2, q2, r2⟩⟩) = 20 by simp [chkM, hw])
        rw [show mul ⟨⟨⟨a, b, c⟩, ⟨d, o, f⟩, ⟨g, u, i⟩⟩, ⟨p, q, r⟩⟩ ⟨⟨⟨a2, b2, c2⟩, ⟨d2, o2, f2⟩, ⟨g2, u2, i2⟩⟩, ⟨p2, q2, r2⟩⟩ = (zeroM, 20) by simp [mul, hm, hn, hw]]
        go_enter Try.func11, Try.ntmps11
        go_wp2_with (go_at_call 19; refine (plus_post (checkMat_calls _ _ _ _ _ _ _ _ _ _ _ _ _)).mono ?_; rintro e w' ⟨rfl, nx, rfl⟩)
        refine region_fresh 10 8 (.cells #[.int .i64 0, .int .i64 0, .int .i64 0, .int .i64 0, .int .i64 0, .int .i64 0, .int .i64 0, .int .i64 0, .int .i64 0, .int .i64 0, .int .i64 0, .int .i64 0] 31) (by kernel_rfl) (by kernel_rfl) rfl (fun _ _ x _ _ h => by cases x <;> exact h) (fun _ _ => by kernel_rfl) ?_
        apply Exists.intro
        refine ⟨fun x0 => ?_, fun x1 x2 => ?_⟩
        · simp only [List.take_succ_cons, List.take_zero]
          (repeat (go_big_quiet_step ((first | (go_at_call 30; exact plus_of (product_calls _ _ _ _ _ _ _ _ _ _ _ _ _ _ _ _ _ _ (by assumption) (by assumption) _)) | (go_at_call 31; exact plus_of (moved_calls _ _ _ _ _ _ _ _ _ _ _ _ _ _ _ (by assumption) (by assumption) (by assumption) _))))))
          exact wpQuiet_nil rfl
        simp only [List.drop_succ_cons, List.drop_zero]
        go_wp2_with (go_at_call 19; refine (plus_post (checkMat_calls _ _ _ _ _ _ _ _ _ _ _ _ _)).mono ?_; rintro e w' ⟨rfl, nx, rfl⟩)
        exact bodyPost_ret (v := .tuple #[.agg #[.int .i64 0, .int .i64 0, .int .i64 0, .int .i64 0, .int .i64 0, .int .i64 0, .int .i64 0, .int .i64 0, .int .i64 0, .int .i64 0, .int .i64 0, .int .i64 0], .int .i64 20]) (by simp [results, Try.results11, go_sem, ↓IntWalk.iteOmega]) rfl ⟨rfl, by with_reducible repeat (first | exact Below.refl _ _ | apply ba | apply bp | apply bd | apply bn)⟩
      · have e3 : chkM ⟨⟨⟨rowBy ⟨a, b, c⟩ ⟨a2, d2, g2⟩, rowBy ⟨a, b, c⟩ ⟨b2, o2, u2⟩, rowBy ⟨a, b, c⟩ ⟨c2, f2, i2⟩⟩, ⟨rowBy ⟨d, o, f⟩ ⟨a2, d2, g2⟩, rowBy ⟨d, o, f⟩ ⟨b2, o2, u2⟩, rowBy ⟨d, o, f⟩ ⟨c2, f2, i2⟩⟩, ⟨rowBy ⟨g, u, i⟩ ⟨a2, d2, g2⟩, rowBy ⟨g, u, i⟩ ⟨b2, o2, u2⟩, rowBy ⟨g, u, i⟩ ⟨c2, f2, i2⟩⟩⟩, ⟨(moved ⟨⟨⟨a, b, c⟩, ⟨d, o, f⟩, ⟨g, u, i⟩⟩, ⟨p, q, r⟩⟩ ⟨p2, q2, r2⟩).x, (moved ⟨⟨⟨a, b, c⟩, ⟨d, o, f⟩, ⟨g, u, i⟩⟩, ⟨p, q, r⟩⟩ ⟨p2, q2, r2⟩).y, (moved ⟨⟨⟨a, b, c⟩, ⟨d, o, f⟩, ⟨g, u, i⟩⟩, ⟨p, q, r⟩⟩ ⟨p2, q2, r2⟩).z⟩⟩ = 0 := (show chkM (mulM ⟨⟨⟨a, b, c⟩, ⟨d, o, f⟩, ⟨g, u, i⟩⟩, ⟨p, q, r⟩⟩ ⟨⟨⟨a2, b2, c2⟩, ⟨d2, o2, f2⟩, ⟨g2, u2, i2⟩⟩, ⟨p2, q2, r2⟩⟩) = 0 by simp [chkM, hw])
        rw [show mul ⟨⟨⟨a, b, c⟩, ⟨d, o, f⟩, ⟨g, u, i⟩⟩, ⟨p, q, r⟩⟩ ⟨⟨⟨a2, b2, c2⟩, ⟨d2, o2, f2⟩, ⟨g2, u2, i2⟩⟩, ⟨p2, q2, r2⟩⟩ = (mulM ⟨⟨⟨a, b, c⟩, ⟨d, o, f⟩, ⟨g, u, i⟩⟩, ⟨p, q, r⟩⟩ ⟨⟨⟨a2, b2, c2⟩, ⟨d2, o2, f2⟩, ⟨g2, u2, i2⟩⟩, ⟨p2, q2, r2⟩⟩, 0) by simp [mul, hm, hn, hw]]
        go_enter Try.func11, Try.ntmps11
        go_wp2_with (go_at_call 19; refine (plus_post (checkMat_calls _ _ _ _ _ _ _ _ _ _ _ _ _)).mono ?_; rintro e w' ⟨rfl, nx, rfl⟩)
        refine region_fresh 10 8 (.cells #[.int .i64 0, .int .i64 0, .int .i64 0, .int .i64 0, .int .i64 0, .int .i64 0, .int .i64 0, .int .i64 0, .int .i64 0, .int .i64 0, .int .i64 0, .int .i64 0] 31) (by kernel_rfl) (by kernel_rfl) rfl (fun _ _ x _ _ h => by cases x <;> exact h) (fun _ _ => by kernel_rfl) ?_
        apply Exists.intro
        refine ⟨fun x0 => ?_, fun x1 x2 => ?_⟩
        · simp only [List.take_succ_cons, List.take_zero]
          (repeat (go_big_quiet_step ((first | (go_at_call 30; exact plus_of (product_calls _ _ _ _ _ _ _ _ _ _ _ _ _ _ _ _ _ _ (by assumption) (by assumption) _)) | (go_at_call 31; exact plus_of (moved_calls _ _ _ _ _ _ _ _ _ _ _ _ _ _ _ (by assumption) (by assumption) (by assumption) _))))))
          exact wpQuiet_nil rfl
        simp only [List.drop_succ_cons, List.drop_zero]
        go_wp2_with (go_at_call 19; refine (plus_post (checkMat_calls _ _ _ _ _ _ _ _ _ _ _ _ _)).mono ?_; rintro e w' ⟨rfl, nx, rfl⟩)
        exact bodyPost_ret (v := .tuple #[.agg #[.int .i64 (rowBy ⟨a, b, c⟩ ⟨a2, d2, g2⟩), .int .i64 (rowBy ⟨a, b, c⟩ ⟨b2, o2, u2⟩), .int .i64 (rowBy ⟨a, b, c⟩ ⟨c2, f2, i2⟩), .int .i64 (rowBy ⟨d, o, f⟩ ⟨a2, d2, g2⟩), .int .i64 (rowBy ⟨d, o, f⟩ ⟨b2, o2, u2⟩), .int .i64 (rowBy ⟨d, o, f⟩ ⟨c2, f2, i2⟩), .int .i64 (rowBy ⟨g, u, i⟩ ⟨a2, d2, g2⟩), .int .i64 (rowBy ⟨g, u, i⟩ ⟨b2, o2, u2⟩), .int .i64 (rowBy ⟨g, u, i⟩ ⟨c2, f2, i2⟩), .int .i64 ((moved ⟨⟨⟨a, b, c⟩, ⟨d, o, f⟩, ⟨g, u, i⟩⟩, ⟨p, q, r⟩⟩ ⟨p2, q2, r2⟩).x), .int .i64 ((moved ⟨⟨⟨a, b, c⟩, ⟨d, o, f⟩, ⟨g, u, i⟩⟩, ⟨p, q, r⟩⟩ ⟨p2, q2, r2⟩).y), .int .i64 ((moved ⟨⟨⟨a, b, c⟩, ⟨d, o, f⟩, ⟨g, u, i⟩⟩, ⟨p, q, r⟩⟩ ⟨p2, q2, r2⟩).z)], .int .i64 0]) (by simp [results, Try.results11, go_sem, ↓IntWalk.iteOmega]) rfl ⟨rfl, by with_reducible repeat (first | exact Below.refl _ _ | apply ba | apply bp | apply bd | apply bn)⟩

end Go.Proofs.Ytokammhfkmgjeaa
