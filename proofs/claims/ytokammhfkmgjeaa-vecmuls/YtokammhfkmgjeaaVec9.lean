/- What the document's own Mul gives (dioramaref02). -/
import Derived.Test.YtokammhfkmgjeaaVec7
namespace Go.Proofs.Ytokammhfkmgjeaa
open Go.RowKit Go.ChangeShapes Go.WideShapes Go.ChangeAt
set_option linter.unusedSimpArgs false
set_option linter.unusedVariables false
attribute [local go_sem] plus_size plus_drew dn_set dn_alloc dn_plus plus_dn cell_plus frozen_plus set_plus cell_alloc frozen_alloc set_alloc

attribute [local go_sem] ix3_0 ix3_1 ix3_2 ix9_0 ix9_1 ix9_2

set_option maxHeartbeats 8000000 in
theorem rmul_out (a b c d o f g u i p q r a2 b2 c2 d2 o2 f2 g2 u2 i2 p2 q2 r2 : Int) (k1 : all9 ⟨⟨a, b, c⟩, ⟨d, o, f⟩, ⟨g, u, i⟩⟩ 1024 = true) (k2 : all3 ⟨p, q, r⟩ 4096 = true) (l1 : all9 ⟨⟨a2, b2, c2⟩, ⟨d2, o2, f2⟩, ⟨g2, u2, i2⟩⟩ 1024 = true) (l2 : all3 ⟨p2, q2, r2⟩ 4096 = true) (hm : mayM ⟨⟨⟨a, b, c⟩, ⟨d, o, f⟩, ⟨g, u, i⟩⟩, ⟨p, q, r⟩⟩ = true) (hn : mayM ⟨⟨⟨a2, b2, c2⟩, ⟨d2, o2, f2⟩, ⟨g2, u2, i2⟩⟩, ⟨p2, q2, r2⟩⟩ = true) (hw : mayM ⟨⟨⟨rowBy ⟨a, b, c⟩ ⟨a2, d2, g2⟩, rowBy ⟨a, b, c⟩ ⟨b2, o2, u2⟩, rowBy ⟨a, b, c⟩ ⟨c2, f2, i2⟩⟩, ⟨rowBy ⟨d, o, f⟩ ⟨a2, d2, g2⟩, rowBy ⟨d, o, f⟩ ⟨b2, o2, u2⟩, rowBy ⟨d, o, f⟩ ⟨c2, f2, i2⟩⟩, ⟨rowBy ⟨g, u, i⟩ ⟨a2, d2, g2⟩, rowBy ⟨g, u, i⟩ ⟨b2, o2, u2⟩, rowBy ⟨g, u, i⟩ ⟨c2, f2, i2⟩⟩⟩, ⟨(turned ⟨⟨a, b, c⟩, ⟨d, o, f⟩, ⟨g, u, i⟩⟩ ⟨p2, q2, r2⟩).x + p, (turned ⟨⟨a, b, c⟩, ⟨d, o, f⟩, ⟨g, u, i⟩⟩ ⟨p2, q2, r2⟩).y + q, (turned ⟨⟨a, b, c⟩, ⟨d, o, f⟩, ⟨g, u, i⟩⟩ ⟨p2, q2, r2⟩).z + r⟩⟩ = false) (w : World) :
    Calls Try.prog 23 #[.agg #[.int .i64 a, .int .i64 b, .int .i64 c, .int .i64 d, .int .i64 o, .int .i64 f, .int .i64 g, .int .i64 u, .int .i64 i, .int .i64 p, .int .i64 q, .int .i64 r], .agg #[.int .i64 a2, .int .i64 b2, .int .i64 c2, .int .i64 d2, .int .i64 o2, .int .i64 f2, .int .i64 g2, .int .i64 u2, .int .i64 i2, .int .i64 p2, .int .i64 q2, .int .i64 r2]] w fun e w' => e = .returned (.tuple #[.agg #[.int .i64 0, .int .i64 0, .int .i64 0, .int .i64 0, .int .i64 0, .int .i64 0, .int .i64 0, .int .i64 0, .int .i64 0, .int .i64 0, .int .i64 0, .int .i64 0], .int .i64 20]) ∧ Below w.heap.size w w' := by
  obtain ⟨r1, r2', r3⟩ := all9_of k1
  obtain ⟨s1, s2, s3⟩ := all9_of (flip_all l1)
  simp only [flipped] at r1 r2' r3 s1 s2 s3
  replace s1 := all3_mono (k := 32768) (by omega) s1
  replace s2 := all3_mono (k := 32768) (by omega) s2
  replace s3 := all3_mono (k := 32768) (by omega) s3
  have l3 := all3_mono (k := 32768) (by omega) l2
  have ht : all3 ⟨(turned ⟨⟨a, b, c⟩, ⟨d, o, f⟩, ⟨g, u, i⟩⟩ ⟨p2, q2, r2⟩).x, (turned ⟨⟨a, b, c⟩, ⟨d, o, f⟩, ⟨g, u, i⟩⟩ ⟨p2, q2, r2⟩).y, (turned ⟨⟨a, b, c⟩, ⟨d, o, f⟩, ⟨g, u, i⟩⟩ ⟨p2, q2, r2⟩).z⟩ 393216 = true := turned_bd k1 l3
  go_enter Try.func23, Try.ntmps23
  go_wp2_with (go_at_call 20; refine (plus_post (rmay_calls _ _ _ _ _ _ _ _ _ _ _ _ _)).mono ?_; rintro e w' ⟨rfl, nx, rfl⟩)
  refine region_fresh 9 6 (.cells #[.int .i64 0, .int .i64 0, .int .i64 0, .int .i64 0, .int .i64 0, .int .i64 0, .int .i64 0, .int .i64 0, .int .i64 0, .int .i64 0, .int .i64 0, .int .i64 0] 31) (by kernel_rfl) (by kernel_rfl) rfl (fun _ _ x _ _ h => by cases x <;> exact h) (fun _ _ => by kernel_rfl) ?_
  apply Exists.intro
  refine ⟨fun x0 => ?_, fun x1 x2 => ?_⟩
  · simp only [List.take_succ_cons, List.take_zero]
    (repeat (go_big_quiet_step ((first | (go_at_call 33; exact plus_of (rturned_calls _ _ _ _ _ _ _ _ _ _ _ _ (by assumption) (by assumption) _)) | (go_at_call 32; exact plus_of (rplus_calls _ _ _ _ _ _ (by assumption) (by assumption) _))))))
    exact wpQuiet_nil rfl
  simp only [List.drop_succ_cons, List.drop_zero]
  go_wp2_with (go_at_call 20; refine (plus_post (rmay_calls _ _ _ _ _ _ _ _ _ _ _ _ _)).mono ?_; rintro e w' ⟨rfl, nx, rfl⟩)
  refine wp_loop_rounds 4 ?_
  refine soak ((plus (plus (plus (((w.alloc (.cells #[.int .i64 a, .int .i64 b, .int .i64 c, .int .i64 d, .int .i64 o, .int .i64 f, .int .i64 g, .int .i64 u, .int .i64 i, .int .i64 p, .int .i64 q, .int .i64 r] 31)).alloc (.cells #[.int .i64 a2, .int .i64 b2, .int .i64 c2, .int .i64 d2, .int .i64 o2, .int .i64 f2, .int .i64 g2, .int .i64 u2, .int .i64 i2, .int .i64 p2, .int .i64 q2, .int .i64 r2] 31)).alloc (.cells #[.int .i64 0, .int .i64 0, .int .i64 0, .int .i64 0, .int .i64 0, .int .i64 0, .int .i64 0, .int .i64 0, .int .i64 0, .int .i64 0, .int .i64 0, .int .i64 0] 31)) _) _) _).alloc (.cells #[.int .i64 0, .int .i64 0, .int .i64 0, .int .i64 0, .int .i64 0, .int .i64 0, .int .i64 0, .int .i64 0, .int .i64 0, .int .i64 ((turned ⟨⟨a, b, c⟩, ⟨d, o, f⟩, ⟨g, u, i⟩⟩ ⟨p2, q2, r2⟩).x + p), .int .i64 ((turned ⟨⟨a, b, c⟩, ⟨d, o, f⟩, ⟨g, u, i⟩⟩ ⟨p2, q2, r2⟩).y + q), .int .i64 ((turned ⟨⟨a, b, c⟩, ⟨d, o, f⟩, ⟨g, u, i⟩⟩ ⟨p2, q2, r2⟩).z + r)] 31)) (by with_reducible repeat (first | exact ex_refl _ | apply ex_alloc | apply ex_plus | apply ex_drew | apply ex_drewN)) (fun y0 => ?_)
  rw [rounds_succ]
  go_wp2_with (go_at_call 20; refine (plus_post (rmay_calls _ _ _ _ _ _ _ _ _ _ _ _ _)).mono ?_; rintro e w' ⟨rfl, nx, rfl⟩)
  refine wp_loop_rounds 4 ?_
  rw [rounds_succ]
  go_wp2_with (go_at_call 20; refine (plus_post (rmay_calls _ _ _ _ _ _ _ _ _ _ _ _ _)).mono ?_; rintro e w' ⟨rfl, nx, rfl⟩)
  refine region_tail 26 (by kernel_rfl) (by kernel_rfl) ?_
  simp only [List.take_succ_cons, List.take_zero, List.drop_succ_cons, List.drop_zero]
  (repeat (go_big_quiet_step ((go_at_call 36; exact plus_of (rby_calls _ _ _ _ _ _ (by assumption) (by assumption) _)))))
  refine wpQuiet_nil ?_
  rintro _ ⟨x2, rfl⟩
  go_wp2_with (go_at_call 20; refine (plus_post (rmay_calls _ _ _ _ _ _ _ _ _ _ _ _ _)).mono ?_; rintro e w' ⟨rfl, nx, rfl⟩)
  refine soak ((plus (plus (plus (((w.alloc (.cells #[.int .i64 a, .int .i64 b, .int .i64 c, .int .i64 d, .int .i64 o, .int .i64 f, .int .i64 g, .int .i64 u, .int .i64 i, .int .i64 p, .int .i64 q, .int .i64 r] 31)).alloc (.cells #[.int .i64 a2, .int .i64 b2, .int .i64 c2, .int .i64 d2, .int .i64 o2, .int .i64 f2, .int .i64 g2, .int .i64 u2, .int .i64 i2, .int .i64 p2, .int .i64 q2, .int .i64 r2] 31)).alloc (.cells #[.int .i64 0, .int .i64 0, .int .i64 0, .int .i64 0, .int .i64 0, .int .i64 0, .int .i64 0, .int .i64 0, .int .i64 0, .int .i64 0, .int .i64 0, .int .i64 0] 31)) _) _) _).alloc (.cells #[.int .i64 (rowBy ⟨a, b, c⟩ ⟨a2, d2, g2⟩), .int .i64 0, .int .i64 0, .int .i64 0, .int .i64 0, .int .i64 0, .int .i64 0, .int .i64 0, .int .i64 0, .int .i64 ((turned ⟨⟨a, b, c⟩, ⟨d, o, f⟩, ⟨g, u, i⟩⟩ ⟨p2, q2, r2⟩).x + p), .int .i64 ((turned ⟨⟨a, b, c⟩, ⟨d, o, f⟩, ⟨g, u, i⟩⟩ ⟨p2, q2, r2⟩).y + q), .int .i64 ((turned ⟨⟨a, b, c⟩, ⟨d, o, f⟩, ⟨g, u, i⟩⟩ ⟨p2, q2, r2⟩).z + r)] 31)) (by with_reducible repeat (first | exact ex_refl _ | apply ex_alloc | apply ex_plus | apply ex_drew | apply ex_drewN)) (fun y0 => ?_)
  rw [rounds_succ]
  go_wp2_with (go_at_call 20; refine (plus_post (rmay_calls _ _ _ _ _ _ _ _ _ _ _ _ _)).mono ?_; rintro e w' ⟨rfl, nx, rfl⟩)
  refine region_tail 26 (by kernel_rfl) (by kernel_rfl) ?_
  simp only [List.take_succ_cons, List.take_zero, List.drop_succ_cons, List.drop_zero]
  (repeat (go_big_quiet_step ((go_at_call 36; exact plus_of (rby_calls _ _ _ _ _ _ (by assumption) (by assumption) _)))))
  refine wpQuiet_nil ?_
  rintro _ ⟨x2, rfl⟩
  go_wp2_with (go_at_call 20; refine (plus_post (rmay_calls _ _ _ _ _ _ _ _ _ _ _ _ _)).mono ?_; rintro e w' ⟨rfl, nx, rfl⟩)
  refine soak ((plus (plus (plus (((w.alloc (.cells #[.int .i64 a, .int .i64 b, .int .i64 c, .int .i64 d, .int .i64 o, .int .i64 f, .int .i64 g, .int .i64 u, .int .i64 i, .int .i64 p, .int .i64 q, .int .i64 r] 31)).alloc (.cells #[.int .i64 a2, .int .i64 b2, .int .i64 c2, .int .i64 d2, .int .i64 o2, .int .i64 f2, .int .i64 g2, .int .i64 u2, .int .i64 i2, .int .i64 p2, .int .i64 q2, .int .i64 r2] 31)).alloc (.cells #[.int .i64 0, .int .i64 0, .int .i64 0, .int .i64 0, .int .i64 0, .int .i64 0, .int .i64 0, .int .i64 0, .int .i64 0, .int .i64 0, .int .i64 0, .int .i64 0] 31)) _) _) _).alloc (.cells #[.int .i64 (rowBy ⟨a, b, c⟩ ⟨a2, d2, g2⟩), .int .i64 (rowBy ⟨a, b, c⟩ ⟨b2, o2, u2⟩), .int .i64 0, .int .i64 0, .int .i64 0, .int .i64 0, .int .i64 0, .int .i64 0, .int .i64 0, .int .i64 ((turned ⟨⟨a, b, c⟩, ⟨d, o, f⟩, ⟨g, u, i⟩⟩ ⟨p2, q2, r2⟩).x + p), .int .i64 ((turned ⟨⟨a, b, c⟩, ⟨d, o, f⟩, ⟨g, u, i⟩⟩ ⟨p2, q2, r2⟩).y + q), .int .i64 ((turned ⟨⟨a, b, c⟩, ⟨d, o, f⟩, ⟨g, u, i⟩⟩ ⟨p2, q2, r2⟩).z + r)] 31)) (by with_reducible repeat (first | exact ex_refl _ | apply ex_alloc | apply ex_plus | apply ex_drew | apply ex_drewN)) (fun y0 => ?_)
  rw [rounds_succ]
  go_wp2_with (go_at_call 20; refine (plus_post (rmay_calls _ _ _ _ _ _ _ _ _ _ _ _ _)).mono ?_; rintro e w' ⟨rfl, nx, rfl⟩)
  refine region_tail 26 (by kernel_rfl) (by kernel_rfl) ?_
  simp only [List.take_succ_cons, List.take_zero, List.drop_succ_cons, List.drop_zero]
  (repeat (go_big_quiet_step ((go_at_call 36; exact plus_of (rby_calls _ _ _ _ _ _ (by assumption) (by assumption) _)))))
  refine wpQuiet_nil ?_
  rintro _ ⟨x2, rfl⟩
  go_wp2_with (go_at_call 20; refine (plus_post (rmay_calls _ _ _ _ _ _ _ _ _ _ _ _ _)).mono ?_; rintro e w' ⟨rfl, nx, rfl⟩)
  refine soak ((plus (plus (plus (((w.alloc (.cells #[.int .i64 a, .int .i64 b, .int .i64 c, .int .i64 d, .int .i64 o, .int .i64 f, .int .i64 g, .int .i64 u, .int .i64 i, .int .i64 p, .int .i64 q, .int .i64 r] 31)).alloc (.cells #[.int .i64 a2, .int .i64 b2, .int .i64 c2, .int .i64 d2, .int .i64 o2, .int .i64 f2, .int .i64 g2, .int .i64 u2, .int .i64 i2, .int .i64 p2, .int .i64 q2, .int .i64 r2] 31)).alloc (.cells #[.int .i64 0, .int .i64 0, .int .i64 0, .int .i64 0, .int .i64 0, .int .i64 0, .int .i64 0, .int .i64 0, .int .i64 0, .int .i64 0, .int .i64 0, .int .i64 0] 31)) _) _) _).alloc (.cells #[.int .i64 (rowBy ⟨a, b, c⟩ ⟨a2, d2, g2⟩), .int .i64 (rowBy ⟨a, b, c⟩ ⟨b2, o2, u2⟩), .int .i64 (rowBy ⟨a, b, c⟩ ⟨c2, f2, i2⟩), .int .i64 0, .int .i64 0, .int .i64 0, .int .i64 0, .int .i64 0, .int .i64 0, .int .i64 ((turned ⟨⟨a, b, c⟩, ⟨d, o, f⟩, ⟨g, u, i⟩⟩ ⟨p2, q2, r2⟩).x + p), .int .i64 ((turned ⟨⟨a, b, c⟩, ⟨d, o, f⟩, ⟨g, u, i⟩⟩ ⟨p2, q2, r2⟩).y + q), .int .i64 ((turned ⟨⟨a, b, c⟩, ⟨d, o, f⟩, ⟨g, u, i⟩⟩ ⟨p2, q2, r2⟩).z + r)] 31)) (by with_reducible repeat (first | exact ex_refl _ | apply ex_alloc | apply ex_plus | apply ex_drew | apply ex_drewN)) (fun y0 => ?_)
  rw [rounds_succ]
  go_wp2_with (go_at_call 20; refine (plus_post (rmay_calls _ _ _ _ _ _ _ _ _ _ _ _ _)).mono ?_; rintro e w' ⟨rfl, nx, rfl⟩)
  rw [rounds_succ]
  go_wp2_with (go_at_call 20; refine (plus_post (rmay_calls _ _ _ _ _ _ _ _ _ _ _ _ _)).mono ?_; rintro e w' ⟨rfl, nx, rfl⟩)
  refine wp_loop_rounds 4 ?_
  rw [rounds_succ]
  go_wp2_with (go_at_call 20; refine (plus_post (rmay_calls _ _ _ _ _ _ _ _ _ _ _ _ _)).mono ?_; rintro e w' ⟨rfl, nx, rfl⟩)
  refine region_tail 26 (by kernel_rfl) (by kernel_rfl) ?_
  simp only [List.take_succ_cons, List.take_zero, List.drop_succ_cons, List.drop_zero]
  (repeat (go_big_quiet_step ((go_at_call 36; exact plus_of (rby_calls _ _ _ _ _ _ (by assumption) (by assumption) _)))))
  refine wpQuiet_nil ?_
  rintro _ ⟨x2, rfl⟩
  go_wp2_with (go_at_call 20; refine (plus_post (rmay_calls _ _ _ _ _ _ _ _ _ _ _ _ _)).mono ?_; rintro e w' ⟨rfl, nx, rfl⟩)
  refine soak ((plus (plus (plus (((w.alloc (.cells #[.int .i64 a, .int .i64 b, .int .i64 c, .int .i64 d, .int .i64 o, .int .i64 f, .int .i64 g, .int .i64 u, .int .i64 i, .int .i64 p, .int .i64 q, .int .i64 r] 31)).alloc (.cells #[.int .i64 a2, .int .i64 b2, .int .i64 c2, .int .i64 d2, .int .i64 o2, .int .i64 f2, .int .i64 g2, .int .i64 u2, .int .i64 i2, .int .i64 p2, .int .i64 q2, .int .i64 r2] 31)).alloc (.cells #[.int .i64 0, .int .i64 0, .int .i64 0, .int .i64 0, .int .i64 0, .int .i64 0, .int .i64 0, .int .i64 0, .int .i64 0, .int .i64 0, .int .i64 0, .int .i64 0] 31)) _) _) _).alloc (.cells #[.int .i64 (rowBy ⟨a, b, c⟩ ⟨a2, d2, g2⟩), .int .i64 (rowBy ⟨a, b, c⟩ ⟨b2, o2, u2⟩), .int .i64 (rowBy ⟨a, b, c⟩ ⟨c2, f2, i2⟩), .int .i64 (rowBy ⟨d, o, f⟩ ⟨a2, d2, g2⟩), .int .i64 0, .int .i64 0, .int .i64 0, .int .i64 0, .int .i64 0, .int .i64 ((turned ⟨⟨a, b, c⟩, ⟨d, o, f⟩, ⟨g, u, i⟩⟩ ⟨p2, q2, r2⟩).x + p), .int .i64 ((turned ⟨⟨a, b, c⟩, ⟨d, o, f⟩, ⟨g, u, i⟩⟩ ⟨p2, q2, r2⟩).y + q), .int .i64 ((turned ⟨⟨a, b, c⟩, ⟨d, o, f⟩, ⟨g, u, i⟩⟩ ⟨p2, q2, r2⟩).z + r)] 31)) (by with_reducible repeat (first | exact ex_refl _ | apply ex_alloc | apply ex_plus | apply ex_drew | apply ex_drewN)) (fun y0 => ?_)
  rw [rounds_succ]
  go_wp2_with (go_at_call 20; refine (plus_post (rmay_calls _ _ _ _ _ _ _ _ _ _ _ _ _)).mono ?_; rintro e w' ⟨rfl, nx, rfl⟩)
  refine region_tail 26 (by kernel_rfl) (by kernel_rfl) ?_
  simp only [List.take_succ_cons, List.take_zero, List.drop_succ_cons, List.drop_zero]
  (repeat (go_big_quiet_step ((go_at_call 36; exact plus_of (rby_calls _ _ _ _ _ _ (by assumption) (by assumption) _)))))
  refine wpQuiet_nil ?_
  rintro _ ⟨x2, rfl⟩
  go_wp2_with (go_at_call 20; refine (plus_post (rmay_calls _ _ _ _ _ _ _ _ _ _ _ _ _)).mono ?_; rintro e w' ⟨rfl, nx, rfl⟩)
  refine soak ((plus (plus (plus (((w.alloc (.cells #[.int .i64 a, .int .i64 b, .int .i64 c, .int .i64 d, .int .i64 o, .int .i64 f, .int .i64 g, .int .i64 u, .int .i64 i, .int .i64 p, .int .i64 q, .int .i64 r] 31)).alloc (.cells #[.int .i64 a2, .int .i64 b2, .int .i64 c2, .int .i64 d2, .int .i64 o2, .int .i64 f2, .int .i64 g2, .int .i64 u2, .int .i64 i2, .int .i64 p2, .int .i64 q2, .int .i64 r2] 31)).alloc (.cells #[.int .i64 0, .int .i64 0, .int .i64 0, .int .i64 0, .int .i64 0, .int .i64 0, .int .i64 0, .int .i64 0, .int .i64 0, .int .i64 0, .int .i64 0, .int .i64 0] 31)) _) _) _).alloc (.cells #[.int .i64 (rowBy ⟨a, b, c⟩ ⟨a2, d2, g2⟩), .int .i64 (rowBy ⟨a, b, c⟩ ⟨b2, o2, u2⟩), .int .i64 (rowBy ⟨a, b, c⟩ ⟨c2, f2, i2⟩), .int .i64 (rowBy ⟨d, o, f⟩ ⟨a2, d2, g2⟩), .int .i64 (rowBy ⟨d, o, f⟩ ⟨b2, o2, u2⟩), .int .i64 0, .int .i64 0, .int .i64 0, .int .i64 0, .int .i64 ((turned ⟨⟨a, b, c⟩, ⟨d, o, f⟩, ⟨g, u, i⟩⟩ ⟨p2, q2, r2⟩).x + p), .int .i64 ((turned ⟨⟨a, b, c⟩, ⟨d, o, f⟩, ⟨g, u, i⟩⟩ ⟨p2, q2, r2⟩).y + q), .int .i64 ((turned ⟨⟨a, b, c⟩, ⟨d, o, f⟩, ⟨g, u, i⟩⟩ ⟨p2, q2, r2⟩).z + r)] 31)) (by with_reducible repeat (first | exact ex_refl _ | apply ex_alloc | apply ex_plus | apply ex_drew | apply ex_drewN)) (fun y0 => ?_)
  rw [rounds_succ]
  go_wp2_with (go_at_call 20; refine (plus_post (rmay_calls _ _ _ _ _ _ _ _ _ _ _ _ _)).mono ?_; rintro e w' ⟨rfl, nx, rfl⟩)
  refine region_tail 26 (by kernel_rfl) (by kernel_rfl) ?_
  simp only [List.take_succ_cons, List.take_zero, List.drop_succ_cons, List.drop_zero]
  (repeat (go_big_quiet_step ((go_at_call 36; exact plus_of (rby_calls _ _ _ _ _ _ (by assumption) (by assumption) _)))))
  refine wpQuiet_nil ?_
  rintro _ ⟨x2, rfl⟩
  go_wp2_with (go_at_call 20; refine (plus_post (rmay_calls _ _ _ _ _ _ _ _ _ _ _ _ _)).mono ?_; rintro e w' ⟨rfl, nx, rfl⟩)
  refine soak ((plus (plus (plus (((w.alloc (.cells #[.int .i64 a, .int .i64 b, .int .i64 c, .int .i64 d, .int .i64 o, .int .i64 f, .int .i64 g, .int .i64 u, .int .i64 i, .int .i64 p, .int .i64 q, .int .i64 r] 31)).alloc (.cells #[.int .i64 a2, .int .i64 b2, .int .i64 c2, .int .i64 d2, .int .i64 o2, .int .i64 f2, .int .i64 g2, .int .i64 u2, .int .i64 i2, .int .i64 p2, .int .i64 q2, .int .i64 r2] 31)).alloc (.cells #[.int .i64 0, .int .i64 0, .int .i64 0, .int .i64 0, .int .i64 0, .int .i64 0, .int .i64 0, .int .i64 0, .int .i64 0, .int .i64 0, .int .i64 0, .int .i64 0] 31)) _) _) _).alloc (.cells #[.int .i64 (rowBy ⟨a, b, c⟩ ⟨a2, d2, g2⟩), .int .i64 (rowBy ⟨a, b, c⟩ ⟨b2, o2, u2⟩), .int .i64 (rowBy ⟨a, b, c⟩ ⟨c2, f2, i2⟩), .int .i64 (rowBy ⟨d, o, f⟩ ⟨a2, d2, g2⟩), .int .i64 (rowBy ⟨d, o, f⟩ ⟨b2, o2, u2⟩), .int .i64 (rowBy ⟨d, o, f⟩ ⟨c2, f2, i2⟩), .int .i64 0, .int .i64 0, .int .i64 0, .int .i64 ((turned ⟨⟨a, b, c⟩, ⟨d, o, f⟩, ⟨g, u, i⟩⟩ ⟨p2, q2, r2⟩).x + p), .int .i64 ((turned ⟨⟨a, b, c⟩, ⟨d, o, f⟩, ⟨g, u, i⟩⟩ ⟨p2, q2, r2⟩).y + q), .int .i64 ((turned ⟨⟨a, b, c⟩, ⟨d, o, f⟩, ⟨g, u, i⟩⟩ ⟨p2, q2, r2⟩).z + r)] 31)) (by with_reducible repeat (first | exact ex_refl _ | apply ex_alloc | apply ex_plus | apply ex_drew | apply ex_drewN)) (fun y0 => ?_)
  rw [rounds_succ]
  go_wp2_with (go_at_call 20; refine (plus_post (rmay_calls _ _ _ _ _ _ _ _ _ _ _ _ _)).mono ?_; rintro e w' ⟨rfl, nx, rfl⟩)
  rw [rounds_succ]
  go_wp2_with (go_at_call 20; refine (plus_post (rmay_calls _ _ _ _ _ _ _ _ _ _ _ _ _)).mono ?_; rintro e w' ⟨rfl, nx, rfl⟩)
  refine wp_loop_rounds 4 ?_
  rw [rounds_succ]
  go_wp2_with (go_at_call 20; refine (plus_post (rmay_calls _ _ _ _ _ _ _ _ _ _ _ _ _)).mono ?_; rintro e w' ⟨rfl, nx, rfl⟩)
  refine region_tail 26 (by kernel_rfl) (by kernel_rfl) ?_
  simp only [List.take_succ_cons, List.take_zero, List.drop_succ_cons, List.drop_zero]
  (repeat (go_big_quiet_step ((go_at_call 36; exact plus_of (rby_calls _ _ _ _ _ _ (by assumption) (by assumption) _)))))
  refine wpQuiet_nil ?_
  rintro _ ⟨x2, rfl⟩
  go_wp2_with (go_at_call 20; refine (plus_post (rmay_calls _ _ _ _ _ _ _ _ _ _ _ _ _)).mono ?_; rintro e w' ⟨rfl, nx, rfl⟩)
  refine soak ((plus (plus (plus (((w.alloc (.cells #[.int .i64 a, .int .i64 b, .int .i64 c, .int .i64 d, .int .i64 o, .int .i64 f, .int .i64 g, .int .i64 u, .int .i64 i, .int .i64 p, .int .i64 q, .int .i64 r] 31)).alloc (.cells #[.int .i64 a2, .int .i64 b2, .int .i64 c2, .int .i64 d2, .int .i64 o2, .int .i64 f2, .int .i64 g2, .int .i64 u2, .int .i64 i2, .int .i64 p2, .int .i64 q2, .int .i64 r2] 31)).alloc (.cells #[.int .i64 0, .int .i64 0, .int .i64 0, .int .i64 0, .int .i64 0, .int .i64 0, .int .i64 0, .int .i64 0, .int .i64 0, .int .i64 0, .int .i64 0, .int .i64 0] 31)) _) _) _).alloc (.cells #[.int .i64 (rowBy ⟨a, b, c⟩ ⟨a2, d2, g2⟩), .int .i64 (rowBy ⟨a, b, c⟩ ⟨b2, o2, u2⟩), .int .i64 (rowBy ⟨a, b, c⟩ ⟨c2, f2, i2⟩), .int .i64 (rowBy ⟨d, o, f⟩ ⟨a2, d2, g2⟩), .int .i64 (rowBy ⟨d, o, f⟩ ⟨b2, o2, u2⟩), .int .i64 (rowBy ⟨d, o, f⟩ ⟨c2, f2, i2⟩), .int .i64 (rowBy ⟨g, u, i⟩ ⟨a2, d2, g2⟩), .int .i64 0, .int .i64 0, .int .i64 ((turned ⟨⟨a, b, c⟩, ⟨d, o, f⟩, ⟨g, u, i⟩⟩ ⟨p2, q2, r2⟩).x + p), .int .i64 ((turned ⟨⟨a, b, c⟩, ⟨d, o, f⟩, ⟨g, u, i⟩⟩ ⟨p2, q2, r2⟩).y + q), .int .i64 ((turned ⟨⟨a, b, c⟩, ⟨d, o, f⟩, ⟨g, u, i⟩⟩ ⟨p2, q2, r2⟩).z + r)] 31)) (by with_reducible repeat (first | exact ex_refl _ | apply ex_alloc | apply ex_plus | apply ex_drew | apply ex_drewN)) (fun y0 => ?_)
  rw [rounds_succ]
  go_wp2_with (go_at_call 20; refine (plus_post (rmay_calls _ _ _ _ _ _ _ _ _ _ _ _ _)).mono ?_; rintro e w' ⟨rfl, nx, rfl⟩)
  refine region_tail 26 (by kernel_rfl) (by kernel_rfl) ?_
  simp only [List.take_succ_cons, List.take_zero, List.drop_succ_cons, List.drop_zero]
  (repeat (go_big_quiet_step ((go_at_call 36; exact plus_of (rby_calls _ _ _ _ _ _ (by assumption) (by assumption) _)))))
  refine wpQuiet_nil ?_
  rintro _ ⟨x2, rfl⟩
  go_wp2_with (go_at_call 20; refine (plus_post (rmay_calls _ _ _ _ _ _ _ _ _ _ _ _ _)).mono ?_; rintro e w' ⟨rfl, nx, rfl⟩)
  refine soak ((plus (plus (plus (((w.alloc (.cells #[.int .i64 a, .int .i64 b, .int .i64 c, .int .i64 d, .int .i64 o, .int .i64 f, .int .i64 g, .int .i64 u, .int .i64 i, .int .i64 p, .int .i64 q, .int .i64 r] 31)).alloc (.cells #[.int .i64 a2, .int .i64 b2, .int .i64 c2, .int .i64 d2, .int .i64 o2, .int .i64 f2, .int .i64 g2, .int .i64 u2, .int .i64 i2, .int .i64 p2, .int .i64 q2, .int .i64 r2] 31)).alloc (.cells #[.int .i64 0, .int .i64 0, .int .i64 0, .int .i64 0, .int .i64 0, .int .i64 0, .int .i64 0, .int .i64 0, .int .i64 0, .int .i64 0, .int .i64 0, .int .i64 0] 31)) _) _) _).alloc (.cells #[.int .i64 (rowBy ⟨a, b, c⟩ ⟨a2, d2, g2⟩), .int .i64 (rowBy ⟨a, b, c⟩ ⟨b2, o2, u2⟩), .int .i64 (rowBy ⟨a, b, c⟩ ⟨c2, f2, i2⟩), .int .i64 (rowBy ⟨d, o, f⟩ ⟨a2, d2, g2⟩), .int .i64 (rowBy ⟨d, o, f⟩ ⟨b2, o2, u2⟩), .int .i64 (rowBy ⟨d, o, f⟩ ⟨c2, f2, i2⟩), .int .i64 (rowBy ⟨g, u, i⟩ ⟨a2, d2, g2⟩), .int .i64 (rowBy ⟨g, u, i⟩ ⟨b2, o2, u2⟩), .int .i64 0, .int .i64 ((turned ⟨⟨a, b, c⟩, ⟨d, o, f⟩, ⟨g, u, i⟩⟩ ⟨p2, q2, r2⟩).x + p), .int .i64 ((turned ⟨⟨a, b, c⟩, ⟨d, o, f⟩, ⟨g, u, i⟩⟩ ⟨p2, q2, r2⟩).y + q), .int .i64 ((turned ⟨⟨a, b, c⟩, ⟨d, o, f⟩, ⟨g, u, i⟩⟩ ⟨p2, q2, r2⟩).z + r)] 31)) (by with_reducible repeat (first | exact ex_refl _ | apply ex_alloc | apply ex_plus | apply ex_drew | apply ex_drewN)) (fun y0 => ?_)
  rw [rounds_succ]
  go_wp2_with (go_at_call 20; refine (plus_post (rmay_calls _ _ _ _ _ _ _ _ _ _ _ _ _)).mono ?_; rintro e w' ⟨rfl, nx, rfl⟩)
  refine region_tail 26 (by kernel_rfl) (by kernel_rfl) ?_
  simp only [List.take_succ_cons, List.take_zero, List.drop_succ_cons, List.drop_zero]
  (repeat (go_big_quiet_step ((go_at_call 36; exact plus_of (rby_calls _ _ _ _ _ _ (by assumption) (by assumption) _)))))
  refine wpQuiet_nil ?_
  rintro _ ⟨x2, rfl⟩
  go_wp2_with (go_at_call 20; refine (plus_post (rmay_calls _ _ _ _ _ _ _ _ _ _ _ _ _)).mono ?_; rintro e w' ⟨rfl, nx, rfl⟩)
  refine soak ((plus (plus (plus (((w.alloc (.cells #[.int .i64 a, .int .i64 b, .int .i64 c, .int .i64 d, .int .i64 o, .int .i64 f, .int .i64 g, .int .i64 u, .int .i64 i, .int .i64 p, .int .i64 q, .int .i64 r] 31)).alloc (.cells #[.int .i64 a2, .int .i64 b2, .int .i64 c2, .int .i64 d2, .int .i64 o2, .int .i64 f2, .int .i64 g2, .int .i64 u2, .int .i64 i2, .int .i64 p2, .int .i64 q2, .int .i64 r2] 31)).alloc (.cells #[.int .i64 0, .int .i64 0, .int .i64 0, .int .i64 0, .int .i64 0, .int .i64 0, .int .i64 0, .int .i64 0, .int .i64 0, .int .i64 0, .int .i64 0, .int .i64 0] 31)) _) _) _).alloc (.cells #[.int .i64 (rowBy ⟨a, b, c⟩ ⟨a2, d2, g2⟩), .int .i64 (rowBy ⟨a, b, c⟩ ⟨b2, o2, u2⟩), .int .i64 (rowBy ⟨a, b, c⟩ ⟨c2, f2, i2⟩), .int .i64 (rowBy ⟨d, o, f⟩ ⟨a2, d2, g2⟩), .int .i64 (rowBy ⟨d, o, f⟩ ⟨b2, o2, u2⟩), .int .i64 (rowBy ⟨d, o, f⟩ ⟨c2, f2, i2⟩), .int .i64 (rowBy ⟨g, u, i⟩ ⟨a2, d2, g2⟩), .int .i64 (rowBy ⟨g, u, i⟩ ⟨b2, o2, u2⟩), .int .i64 (rowBy ⟨g, u, i⟩ ⟨c2, f2, i2⟩), .int .i64 ((turned ⟨⟨a, b, c⟩, ⟨d, o, f⟩, ⟨g, u, i⟩⟩ ⟨p2, q2, r2⟩).x + p), .int .i64 ((turned ⟨⟨a, b, c⟩, ⟨d, o, f⟩, ⟨g, u, i⟩⟩ ⟨p2, q2, r2⟩).y + q), .int .i64 ((turned ⟨⟨a, b, c⟩, ⟨d, o, f⟩, ⟨g, u, i⟩⟩ ⟨p2, q2, r2⟩).z + r)] 31)) (by with_reducible repeat (first | exact ex_refl _ | apply ex_alloc | apply ex_plus | apply ex_drew | apply ex_drewN)) (fun y0 => ?_)
  rw [rounds_succ]
  go_wp2_with (go_at_call 20; refine (plus_post (rmay_calls _ _ _ _ _ _ _ _ _ _ _ _ _)).mono ?_; rintro e w' ⟨rfl, nx, rfl⟩)
  rw [rounds_succ]
  go_wp2_with (go_at_call 20; refine (plus_post (rmay_calls _ _ _ _ _ _ _ _ _ _ _ _ _)).mono ?_; rintro e w' ⟨rfl, nx, rfl⟩)
  exact bodyPost_ret (v := .tuple #[.agg #[.int .i64 0, .int .i64 0, .int .i64 0, .int .i64 0, .int .i64 0, .int .i64 0, .int .i64 0, .int .i64 0, .int .i64 0, .int .i64 0, .int .i64 0, .int .i64 0], .int .i64 20]) (by simp [results, Try.results23, go_sem, ↓IntWalk.iteOmega]) rfl ⟨rfl, by with_reducible repeat (first | exact Below.refl _ _ | apply ba | apply bp | apply bd | apply bn)⟩

set_option maxHeartbeats 8000000 in
theorem rmul_in (a b c d o f g u i p q r a2 b2 c2 d2 o2 f2 g2 u2 i2 p2 q2 r2 : Int) (k1 : all9 ⟨⟨a, b, c⟩, ⟨d, o, f⟩, ⟨g, u, i⟩⟩ 1024 = true) (k2 : all3 ⟨p, q, r⟩ 4096 = true) (l1 : all9 ⟨⟨a2, b2, c2⟩, ⟨d2, o2, f2⟩, ⟨g2, u2, i2⟩⟩ 1024 = true) (l2 : all3 ⟨p2, q2, r2⟩ 4096 = true) (hm : mayM ⟨⟨⟨a, b, c⟩, ⟨d, o, f⟩, ⟨g, u, i⟩⟩, ⟨p, q, r⟩⟩ = true) (hn : mayM ⟨⟨⟨a2, b2, c2⟩, ⟨d2, o2, f2⟩, ⟨g2, u2, i2⟩⟩, ⟨p2, q2, r2⟩⟩ = true) (hw : mayM ⟨⟨⟨rowBy ⟨a, b, c⟩ ⟨a2, d2, g2⟩, rowBy ⟨a, b, c⟩ ⟨b2, o2, u2⟩, rowBy ⟨a, b, c⟩ ⟨c2, f2, i2⟩⟩, ⟨rowBy ⟨d, o, f⟩ ⟨a2, d2, g2⟩, rowBy ⟨d, o, f⟩ ⟨b2, o2, u2⟩, rowBy ⟨d, o, f⟩ ⟨c2, f2, i2⟩⟩, ⟨rowBy ⟨g, u, i⟩ ⟨a2, d2, g2⟩, rowBy ⟨g, u, i⟩ ⟨b2, o2, u2⟩, rowBy ⟨g, u, i⟩ ⟨c2, f2, i2⟩⟩⟩, ⟨(turned ⟨⟨a, b, c⟩, ⟨d, o, f⟩, ⟨g, u, i⟩⟩ ⟨p2, q2, r2⟩).x + p, (turned ⟨⟨a, b, c⟩, ⟨d, o, f⟩, ⟨g, u, i⟩⟩ ⟨p2, q2, r2⟩).y + q, (turned ⟨⟨a, b, c⟩, ⟨d, o, f⟩, ⟨g, u, i⟩⟩ ⟨p2, q2, r2⟩).z + r⟩⟩ = true) (w : World) :
    Calls Try.prog 23 #[.agg #[.int .i64 a, .int .i64 b, .int .i64 c, .int .i64 d, .int .i64 o, .int .i64 f, .int .i64 g, .int .i64 u, .int .i64 i, .int .i64 p, .int .i64 q, .int .i64 r], .agg #[.int .i64 a2, .int .i64 b2, .int .i64 c2, .int .i64 d2, .int .i64 o2, .int .i64 f2, .int .i64 g2, .int .i64 u2, .int .i64 i2, .int .i64 p2, .int .i64 q2, .int .i64 r2]] w fun e w' => e = .returned (.tuple #[.agg #[.int .i64 (rowBy ⟨a, b, c⟩ ⟨a2, d2, g2⟩), .int .i64 (rowBy ⟨a, b, c⟩ ⟨b2, o2, u2⟩), .int .i64 (rowBy ⟨a, b, c⟩ ⟨c2, f2, i2⟩), .int .i64 (rowBy ⟨d, o, f⟩ ⟨a2, d2, g2⟩), .int .i64 (rowBy ⟨d, o, f⟩ ⟨b2, o2, u2⟩), .int .i64 (rowBy ⟨d, o, f⟩ ⟨c2, f2, i2⟩), .int .i64 (rowBy ⟨g, u, i⟩ ⟨a2, d2, g2⟩), .int .i64 (rowBy ⟨g, u, i⟩ ⟨b2, o2, u2⟩), .int .i64 (rowBy ⟨g, u, i⟩ ⟨c2, f2, i2⟩), .int .i64 ((turned ⟨⟨a, b, c⟩, ⟨d, o, f⟩, ⟨g, u, i⟩⟩ ⟨p2, q2, r2⟩).x + p), .int .i64 ((turned ⟨⟨a, b, c⟩, ⟨d, o, f⟩, ⟨g, u, i⟩⟩ ⟨p2, q2, r2⟩).y + q), .int .i64 ((turned ⟨⟨a, b, c⟩, ⟨d, o, f⟩, ⟨g, u, i⟩⟩ ⟨p2, q2, r2⟩).z + r)], .int .i64 0]) ∧ Below w.heap.size w w' := by
  obtain ⟨r1, r2', r3⟩ := all9_of k1
  obtain ⟨s1, s2, s3⟩ := all9_of (flip_all l1)
  simp only [flipped] at r1 r2' r3 s1 s2 s3
  replace s1 := all3_mono (k := 32768) (by omega) s1
  replace s2 := all3_mono (k := 32768) (by omega) s2
  replace s3 := all3_mono (k := 32768) (by omega) s3
  have l3 := all3_mono (k := 32768) (by omega) l2
  have ht : all3 ⟨(turned ⟨⟨a, b, c⟩, ⟨d, o, f⟩, ⟨g, u, i⟩⟩ ⟨p2, q2, r2⟩).x, (turned ⟨⟨a, b, c⟩, ⟨d, o, f⟩, ⟨g, u, i⟩⟩ ⟨p2, q2, r2⟩).y, (turned ⟨⟨a, b, c⟩, ⟨d, o, f⟩, ⟨g, u, i⟩⟩ ⟨p2, q2, r2⟩).z⟩ 393216 = true := turned_bd k1 l3
  go_enter Try.func23, Try.ntmps23
  go_wp2_with (go_at_call 20; refine (plus_post (rmay_calls _ _ _ _ _ _ _ _ _ _ _ _ _)).mono ?_; rintro e w' ⟨rfl, nx, rfl⟩)
  refine region_fresh 9 6 (.cells #[.int .i64 0, .int .i64 0, .int .i64 0, .int .i64 0, .int .i64 0, .int .i64 0, .int .i64 0, .int .i64 0, .int .i64 0, .int .i64 0, .int .i64 0, .int .i64 0] 31) (by kernel_rfl) (by kernel_rfl) rfl (fun _ _ x _ _ h => by cases x <;> exact h) (fun _ _ => by kernel_rfl) ?_
  apply Exists.intro
  refine ⟨fun x0 => ?_, fun x1 x2 => ?_⟩
  · simp only [List.take_succ_cons, List.take_zero]
    (repeat (go_big_quiet_step ((first | (go_at_call 33; exact plus_of (rturned_calls _ _ _ _ _ _ _ _ _ _ _ _ (by assumption) (by assumption) _)) | (go_at_call 32; exact plus_of (rplus_calls _ _ _ _ _ _ (by assumption) (by assumption) _))))))
    exact wpQuiet_nil rfl
  simp only [List.drop_succ_cons, List.drop_zero]
  go_wp2_with (go_at_call 20; refine (plus_post (rmay_calls _ _ _ _ _ _ _ _ _ _ _ _ _)).mono ?_; rintro e w' ⟨rfl, nx, rfl⟩)
  refine wp_loop_rounds 4 ?_
  refine soak ((plus (plus (plus (((w.alloc (.cells #[.int .i64 a, .int .i64 b, .int .i64 c, .int .i64 d, .int .i64 o, .int .i64 f, .int .i64 g, .int .i64 u, .int .i64 i, .int .i64 p, .int .i64 q, .int .i64 r] 31)).alloc (.cells #[.int .i64 a2, .int .i64 b2, .int .i64 c2, .int .i64 d2, .int .i64 o2, .int .i64 f2, .int .i64 g2, .int .i64 u2, .int .i64 i2, .int .i64 p2, .int .i64 q2, .int .i64 r2] 31)).alloc (.cells #[.int .i64 0, .int .i64 0, .int .i64 0, .int .i64 0, .int .i64 0, .int .i64 0, .int .i64 0, .int .i64 0, .int .i64 0, .int .i64 0, .int .i64 0, .int .i64 0] 31)) _) _) _).alloc (.cells #[.int .i64 0, .int .i64 0, .int .i64 0, .int .i64 0, .int .i64 0, .int .i64 0, .int .i64 0, .int .i64 0, .int .i64 0, .int .i64 ((turned ⟨⟨a, b, c⟩, ⟨d, o, f⟩, ⟨g, u, i⟩⟩ ⟨p2, q2, r2⟩).x + p), .int .i64 ((turned ⟨⟨a, b, c⟩, ⟨d, o, f⟩, ⟨g, u, i⟩⟩ ⟨p2, q2, r2⟩).y + q), .int .i64 ((turned ⟨⟨a, b, c⟩, ⟨d, o, f⟩, ⟨g, u, i⟩⟩ ⟨p2, q2, r2⟩).z + r)] 31)) (by with_reducible repeat (first | exact ex_refl _ | apply ex_alloc | apply ex_plus | apply ex_drew | apply ex_drewN)) (fun y0 => ?_)
  rw [rounds_succ]
  go_wp2_with (go_at_call 20; refine (plus_post (rmay_calls _ _ _ _ _ _ _ _ _ _ _ _ _)).mono ?_; rintro e w' ⟨rfl, nx, rfl⟩)
  refine wp_loop_rounds 4 ?_
  rw [rounds_succ]
  go_wp2_with (go_at_call 20; refine (plus_post (rmay_calls _ _ _ _ _ _ _ _ _ _ _ _ _)).mono ?_; rintro e w' ⟨rfl, nx, rfl⟩)
  refine region_tail 26 (by kernel_rfl) (by kernel_rfl) ?_
  simp only [List.take_succ_cons, List.take_zero, List.drop_succ_cons, List.drop_zero]
  (repeat (go_big_quiet_step ((go_at_call 36; exact plus_of (rby_calls _ _ _ _ _ _ (by assumption) (by assumption) _)))))
  refine wpQuiet_nil ?_
  rintro _ ⟨x2, rfl⟩
  go_wp2_with (go_at_call 20; refine (plus_post (rmay_calls _ _ _ _ _ _ _ _ _ _ _ _ _)).mono ?_; rintro e w' ⟨rfl, nx, rfl⟩)
  refine soak ((plus (plus (plus (((w.alloc (.cells #[.int .i64 a, .int .i64 b, .int .i64 c, .int .i64 d, .int .i64 o, .int .i64 f, .int .i64 g, .int .i64 u, .int .i64 i, .int .i64 p, .int .i64 q, .int .i64 r] 31)).alloc (.cells #[.int .i64 a2, .int .i64 b2, .int .i64 c2, .int .i64 d2, .int .i64 o2, .int .i64 f2, .int .i64 g2, .int .i64 u2, .int .i64 i2, .int .i64 p2, .int .i64 q2, .int .i64 r2] 31)).alloc (.cells #[.int .i64 0, .int .i64 0, .int .i64 0, .int .i64 0, .int .i64 0, .int .i64 0, .int .i64 0, .int .i64 0, .int .i64 0, .int .i64 0, .int .i64 0, .int .i64 0] 31)) _) _) _).alloc (.cells #[.int .i64 (rowBy ⟨a, b, c⟩ ⟨a2, d2, g2⟩), .int .i64 0, .int .i64 0, .int .i64 0, .int .i64 0, .int .i64 0, .int .i64 0, .int .i64 0, .int .i64 0, .int .i64 ((turned ⟨⟨a, b, c⟩, ⟨d, o, f⟩, ⟨g, u, i⟩⟩ ⟨p2, q2, r2⟩).x + p), .int .i64 ((turned ⟨⟨a, b, c⟩, ⟨d, o, f⟩, ⟨g, u, i⟩⟩ ⟨p2, q2, r2⟩).y + q), .int .i64 ((turned ⟨⟨a, b, c⟩, ⟨d, o, f⟩, ⟨g, u, i⟩⟩ ⟨p2, q2, r2⟩).z + r)] 31)) (by with_reducible repeat (first | exact ex_refl _ | apply ex_alloc | apply ex_plus | apply ex_drew | apply ex_drewN)) (fun y0 => ?_)
  rw [rounds_succ]
  go_wp2_with (go_at_call 20; refine (plus_post (rmay_calls _ _ _ _ _ _ _ _ _ _ _ _ _)).mono ?_; rintro e w' ⟨rfl, nx, rfl⟩)
  refine region_tail 26 (by kernel_rfl) (by kernel_rfl) ?_
  simp only [List.take_succ_cons, List.take_zero, List.drop_succ_cons, List.drop_zero]
  (repeat (go_big_quiet_step ((go_at_call 36; exact plus_of (rby_calls _ _ _ _ _ _ (by assumption) (by assumption) _)))))
  refine wpQuiet_nil ?_
  rintro _ ⟨x2, rfl⟩
  go_wp2_with (go_at_call 20; refine (plus_post (rmay_calls _ _ _ _ _ _ _ _ _ _ _ _ _)).mono ?_; rintro e w' ⟨rfl, nx, rfl⟩)
  refine soak ((plus (plus (plus (((w.alloc (.cells #[.int .i64 a, .int .i64 b, .int .i64 c, .int .i64 d, .int .i64 o, .int .i64 f, .int .i64 g, .int .i64 u, .int .i64 i, .int .i64 p, .int .i64 q, .int .i64 r] 31)).alloc (.cells #[.int .i64 a2, .int .i64 b2, .int .i64 c2, .int .i64 d2, .int .i64 o2, .int .i64 f2, .int .i64 g2, .int .i64 u2, .int .i64 i2, .int .i64 p2, .int .i64 q2, .int .i64 r2] 31)).alloc (.cells #[.int .i64 0, .int .i64 0, .int .i64 0, .int .i64 0, .int .i64 0, .int .i64 0, .int .i64 0, .int .i64 0, .int .i64 0, .int .i64 0, .int .i64 0, .int .i64 0] 31)) _) _) _).alloc (.cells #[.int .i64 (rowBy ⟨a, b, c⟩ ⟨a2, d2, g2⟩), .int .i64 (rowBy ⟨a, b, c⟩ ⟨b2, o2, u2⟩), .int .i64 0, .int .i64 0, .int .i64 0, .int .i64 0, .int .i64 0, .int .i64 0, .int .i64 0, .int .i64 ((turned ⟨⟨a, b, c⟩, ⟨d, o, f⟩, ⟨g, u, i⟩⟩ ⟨p2, q2, r2⟩).x + p), .int .i64 ((turned ⟨⟨a, b, c⟩, ⟨d, o, f⟩, ⟨g, u, i⟩⟩ ⟨p2, q2, r2⟩).y + q), .int .i64 ((turned ⟨⟨a, b, c⟩, ⟨d, o, f⟩, ⟨g, u, i⟩⟩ ⟨p2, q2, r2⟩).z + r)] 31)) (by with_reducible repeat (first | exact ex_refl _ | apply ex_alloc | apply ex_plus | apply ex_drew | apply ex_drewN)) (fun y0 => ?_)
  rw [rounds_succ]
  go_wp2_with (go_at_call 20; refine (plus_post (rmay_calls _ _ _ _ _ _ _ _ _ _ _ _ _)).mono ?_; rintro e w' ⟨rfl, nx, rfl⟩)
  refine region_tail 26 (by kernel_rfl) (by kernel_rfl) ?_
  simp only [List.take_succ_cons, List.take_zero, List.drop_succ_cons, List.drop_zero]
  (repeat (go_big_quiet_step ((go_at_call 36; exact plus_of (rby_calls _ _ _ _ _ _ (by assumption) (by assumption) _)))))
  refine wpQuiet_nil ?_
  rintro _ ⟨x2, rfl⟩
  go_wp2_with (go_at_call 20; refine (plus_post (rmay_calls _ _ _ _ _ _ _ _ _ _ _ _ _)).mono ?_; rintro e w' ⟨rfl, nx, rfl⟩)
  refine soak ((plus (plus (plus (((w.alloc (.cells #[.int .i64 a, .int .i64 b, .int .i64 c, .int .i64 d, .int .i64 o, .int .i64 f, .int .i64 g, .int .i64 u, .int .i64 i, .int .i64 p, .int .i64 q, .int .i64 r] 31)).alloc (.cells #[.int .i64 a2, .int .i64 b2, .int .i64 c2, .int .i64 d2, .int .i64 o2, .int .i64 f2, .int .i64 g2, .int .i64 u2, .int .i64 i2, .int .i64 p2, .int .i64 q2, .int .i64 r2] 31)).alloc (.cells #[.int .i64 0, .int .i64 0, .int .i64 0, .int .i64 0, .int .i64 0, .int .i64 0, .int .i64 0, .int .i64 0, .int .i64 0, .int .i64 0, .int .i64 0, .int .i64 0] 31)) _) _) _).alloc (.cells #[.int .i64 (rowBy ⟨a, b, c⟩ ⟨a2, d2, g2⟩), .int .i64 (rowBy ⟨a, b, c⟩ ⟨b2, o2, u2⟩), .int .i64 (rowBy ⟨a, b, c⟩ ⟨c2, f2, i2⟩), .int .i64 0, .int .i64 0, .int .i64 0, .int .i64 0, .int .i64 0, .int .i64 0, .int .i64 ((turned ⟨⟨a, b, c⟩, ⟨d, o, f⟩, ⟨g, u, i⟩⟩ ⟨p2, q2, r2⟩).x + p), .int .i64 ((turned ⟨⟨a, b, c⟩, ⟨d, o, f⟩, ⟨g, u, i⟩⟩ ⟨p2, q2, r2⟩).y + q), .int .i64 ((turned ⟨⟨a, b, c⟩, ⟨d, o, f⟩, ⟨g, u, i⟩⟩ ⟨p2, q2, r2⟩).z + r)] 31)) (by with_reducible repeat (first | exact ex_refl _ | apply ex_alloc | apply ex_plus | apply ex_drew | apply ex_drewN)) (fun y0 => ?_)
  rw [rounds_succ]
  go_wp2_with (go_at_call 20; refine (plus_post (rmay_calls _ _ _ _ _ _ _ _ _ _ _ _ _)).mono ?_; rintro e w' ⟨rfl, nx, rfl⟩)
  rw [rounds_succ]
  go_wp2_with (go_at_call 20; refine (plus_post (rmay_calls _ _ _ _ _ _ _ _ _ _ _ _ _)).mono ?_; rintro e w' ⟨rfl, nx, rfl⟩)
  refine wp_loop_rounds 4 ?_
  rw [rounds_succ]
  go_wp2_with (go_at_call 20; refine (plus_post (rmay_calls _ _ _ _ _ _ _ _ _ _ _ _ _)).mono ?_; rintro e w' ⟨rfl, nx, rfl⟩)
  refine region_tail 26 (by kernel_rfl) (by kernel_rfl) ?_
  simp only [List.take_succ_cons, List.take_zero, List.drop_succ_cons, List.drop_zero]
  (repeat (go_big_quiet_step ((go_at_call 36; exact plus_of (rby_calls _ _ _ _ _ _ (by assumption) (by assumption) _)))))
  refine wpQuiet_nil ?_
  rintro _ ⟨x2, rfl⟩
  go_wp2_with (go_at_call 20; refine (plus_post (rmay_calls _ _ _ _ _ _ _ _ _ _ _ _ _)).mono ?_; rintro e w' ⟨rfl, nx, rfl⟩)
  refine soak ((plus (plus (plus (((w.alloc (.cells #[.int .i64 a, .int .i64 b, .int .i64 c, .int .i64 d, .int .i64 o, .int .i64 f, .int .i64 g, .int .i64 u, .int .i64 i, .int .i64 p, .int .i64 q, .int .i64 r] 31)).alloc (.cells #[.int .i64 a2, .int .i64 b2, .int .i64 c2, .int .i64 d2, .int .i64 o2, .int .i64 f2, .int .i64 g2, .int .i64 u2, .int .i64 i2, .int .i64 p2, .int .i64 q2, .int .i64 r2] 31)).alloc (.cells #[.int .i64 0, .int .i64 0, .int .i64 0, .int .i64 0, .int .i64 0, .int .i64 0, .int .i64 0, .int .i64 0, .int .i64 0, .int .i64 0, .int .i64 0, .int .i64 0] 31)) _) _) _).alloc (.cells #[.int .i64 (rowBy ⟨a, b, c⟩ ⟨a2, d2, g2⟩), .int .i64 (rowBy ⟨a, b, c⟩ ⟨b2, o2, u2⟩), .int .i64 (rowBy ⟨a, b, c⟩ ⟨c2, f2, i2⟩), .int .i64 (rowBy ⟨d, o, f⟩ ⟨a2, d2, g2⟩), .int .i64 0, .int .i64 0, .int .i64 0, .int .i64 0, .int .i64 0, .int .i64 ((turned ⟨⟨a, b, c⟩, ⟨d, o, f⟩, ⟨g, u, i⟩⟩ ⟨p2, q2, r2⟩).x + p), .int .i64 ((turned ⟨⟨a, b, c⟩, ⟨d, o, f⟩, ⟨g, u, i⟩⟩ ⟨p2, q2, r2⟩).y + q), .int .i64 ((turned ⟨⟨a, b, c⟩, ⟨d, o, f⟩, ⟨g, u, i⟩⟩ ⟨p2, q2, r2⟩).z + r)] 31)) (by with_reducible repeat (first | exact ex_refl _ | apply ex_alloc | apply ex_plus | apply ex_drew | apply ex_drewN)) (fun y0 => ?_)
  rw [rounds_succ]
  go_wp2_with (go_at_call 20; refine (plus_post (rmay_calls _ _ _ _ _ _ _ _ _ _ _ _ _)).mono ?_; rintro e w' ⟨rfl, nx, rfl⟩)
  refine region_tail 26 (by kernel_rfl) (by kernel_rfl) ?_
  simp only [List.take_succ_cons, List.take_zero, List.drop_succ_cons, List.drop_zero]
  (repeat (go_big_quiet_step ((go_at_call 36; exact plus_of (rby_calls _ _ _ _ _ _ (by assumption) (by assumption) _)))))
  refine wpQuiet_nil ?_
  rintro _ ⟨x2, rfl⟩
  go_wp2_with (go_at_call 20; refine (plus_post (rmay_calls _ _ _ _ _ _ _ _ _ _ _ _ _)).mono ?_; rintro e w' ⟨rfl, nx, rfl⟩)
  refine soak ((plus (plus (plus (((w.alloc (.cells #[.int .i64 a, .int .i64 b, .int .i64 c, .int .i64 d, .int .i64 o, .int .i64 f, .int .i64 g, .int .i64 u, .int .i64 i, .int .i64 p, .int .i64 q, .int .i64 r] 31)).alloc (.cells #[.int .i64 a2, .int .i64 b2, .int .i64 c2, .int .i64 d2, .int .i64 o2, .int .i64 f2, .int .i64 g2, .int .i64 u2, .int .i64 i2, .int .i64 p2, .int .i64 q2, .int .i64 r2] 31)).alloc (.cells #[.int .i64 0, .int .i64 0, .int .i64 0, .int .i64 0, .int .i64 0, .int .i64 0, .int .i64 0, .int .i64 0, .int .i64 0, .int .i64 0, .int .i64 0, .int .i64 0] 31)) _) _) _).alloc (.cells #[.int .i64 (rowBy ⟨a, b, c⟩ ⟨a2, d2, g2⟩), .int .i64 (rowBy ⟨a, b, c⟩ ⟨b2, o2, u2⟩), .int .i64 (rowBy ⟨a, b, c⟩ ⟨c2, f2, i2⟩), .int .i64 (rowBy ⟨d, o, f⟩ ⟨a2, d2, g2⟩), .int .i64 (rowBy ⟨d, o, f⟩ ⟨b2, o2, u2⟩), .int .i64 0, .int .i64 0, .int .i64 0, .int .i64 0, .int .i64 ((turned ⟨⟨a, b, c⟩, ⟨d, o, f⟩, ⟨g, u, i⟩⟩ ⟨p2, q2, r2⟩).x + p), .int .i64 ((turned ⟨⟨a, b, c⟩, ⟨d, o, f⟩, ⟨g, u, i⟩⟩ ⟨p2, q2, r2⟩).y + q), .int .i64 ((turned ⟨⟨a, b, c⟩, ⟨d, o, f⟩, ⟨g, u, i⟩⟩ ⟨p2, q2, r2⟩).z + r)] 31)) (by with_reducible repeat (first | exact ex_refl _ | apply ex_alloc | apply ex_plus | apply ex_drew | apply ex_drewN)) (fun y0 => ?_)
  rw [rounds_succ]
  go_wp2_with (go_at_call 20; refine (plus_post (rmay_calls _ _ _ _ _ _ _ _ _ _ _ _ _)).mono ?_; rintro e w' ⟨rfl, nx, rfl⟩)
  refine region_tail 26 (by kernel_rfl) (by kernel_rfl) ?_
  simp only [List.take_succ_cons, List.take_zero, List.drop_succ_cons, List.drop_zero]
  (repeat (go_big_quiet_step ((go_at_call 36; exact plus_of (rby_calls _ _ _ _ _ _ (by assumption) (by assumption) _)))))
  refine wpQuiet_nil ?_
  rintro _ ⟨x2, rfl⟩
  go_wp2_with (go_at_call 20; refine (plus_post (rmay_calls _ _ _ _ _ _ _ _ _ _ _ _ _)).mono ?_; rintro e w' ⟨rfl, nx, rfl⟩)
  refine soak ((plus (plus (plus (((w.alloc (.cells #[.int .i64 a, .int .i64 b, .int .i64 c, .int .i64 d, .int .i64 o, .int .i64 f, .int .i64 g, .int .i64 u, .int .i64 i, .int .i64 p, .int .i64 q, .int .i64 r] 31)).alloc (.cells #[.int .i64 a2, .int .i64 b2, .int .i64 c2, .int .i64 d2, .int .i64 o2, .int .i64 f2, .int .i64 g2, .int .i64 u2, .int .i64 i2, .int .i64 p2, .int .i64 q2, .int .i64 r2] 31)).alloc (.cells #[.int .i64 0, .int .i64 0, .int .i64 0, .int .i64 0, .int .i64 0, .int .i64 0, .int .i64 0, .int .i64 0, .int .i64 0, .int .i64 0, .int .i64 0, .int .i64 0] 31)) _) _) _).alloc (.cells #[.int .i64 (rowBy ⟨a, b, c⟩ ⟨a2, d2, g2⟩), .int .i64 (rowBy ⟨a, b, c⟩ ⟨b2, o2, u2⟩), .int .i64 (rowBy ⟨a, b, c⟩ ⟨c2, f2, i2⟩), .int .i64 (rowBy ⟨d, o, f⟩ ⟨a2, d2, g2⟩), .int .i64 (rowBy ⟨d, o, f⟩ ⟨b2, o2, u2⟩), .int .i64 (rowBy ⟨d, o, f⟩ ⟨c2, f2, i2⟩), .int .i64 0, .int .i64 0, .int .i64 0, .int .i64 ((turned ⟨⟨a, b, c⟩, ⟨d, o, f⟩, ⟨g, u, i⟩⟩ ⟨p2, q2, r2⟩).x + p), .int .i64 ((turned ⟨⟨a, b, c⟩, ⟨d, o, f⟩, ⟨g, u, i⟩⟩ ⟨p2, q2, r2⟩).y + q), .int .i64 ((turned ⟨⟨a, b, c⟩, ⟨d, o, f⟩, ⟨g, u, i⟩⟩ ⟨p2, q2, r2⟩).z + r)] 31)) (by with_reducible repeat (first | exact ex_refl _ | apply ex_alloc | apply ex_plus | apply ex_drew | apply ex_drewN)) (fun y0 => ?_)
  rw [rounds_succ]
  go_wp2_with (go_at_call 20; refine (plus_post (rmay_calls _ _ _ _ _ _ _ _ _ _ _ _ _)).mono ?_; rintro e w' ⟨rfl, nx, rfl⟩)
  rw [rounds_succ]
  go_wp2_with (go_at_call 20; refine (plus_post (rmay_calls _ _ _ _ _ _ _ _ _ _ _ _ _)).mono ?_; rintro e w' ⟨rfl, nx, rfl⟩)
  refine wp_loop_rounds 4 ?_
  rw [rounds_succ]
  go_wp2_with (go_at_call 20; refine (plus_post (rmay_calls _ _ _ _ _ _ _ _ _ _ _ _ _)).mono ?_; rintro e w' ⟨rfl, nx, rfl⟩)
  refine region_tail 26 (by kernel_rfl) (by kernel_rfl) ?_
  simp only [List.take_succ_cons, List.take_zero, List.drop_succ_cons, List.drop_zero]
  (repeat (go_big_quiet_step ((go_at_call 36; exact plus_of (rby_calls _ _ _ _ _ _ (by assumption) (by assumption) _)))))
  refine wpQuiet_nil ?_
  rintro _ ⟨x2, rfl⟩
  go_wp2_with (go_at_call 20; refine (plus_post (rmay_calls _ _ _ _ _ _ _ _ _ _ _ _ _)).mono ?_; rintro e w' ⟨rfl, nx, rfl⟩)
  refine soak ((plus (plus (plus (((w.alloc (.cells #[.int .i64 a, .int .i64 b, .int .i64 c, .int .i64 d, .int .i64 o, .int .i64 f, .int .i64 g, .int .i64 u, .int .i64 i, .int .i64 p, .int .i64 q, .int .i64 r] 31)).alloc (.cells #[.int .i64 a2, .int .i64 b2, .int .i64 c2, .int .i64 d2, .int .i64 o2, .int .i64 f2, .int .i64 g2, .int .i64 u2, .int .i64 i2, .int .i64 p2, .int .i64 q2, .int .i64 r2] 31)).alloc (.cells #[.int .i64 0, .int .i64 0, .int .i64 0, .int .i64 0, .int .i64 0, .int .i64 0, .int .i64 0, .int .i64 0, .int .i64 0, .int .i64 0, .int .i64 0, .int .i64 0] 31)) _) _) _).alloc (.cells #[.int .i64 (rowBy ⟨a, b, c⟩ ⟨a2, d2, g2⟩), .int .i64 (rowBy ⟨a, b, c⟩ ⟨b2, o2, u2⟩), .int .i64 (rowBy ⟨a, b, c⟩ ⟨c2, f2, i2⟩), .int .i64 (rowBy ⟨d, o, f⟩ ⟨a2, d2, g2⟩), .int .i64 (rowBy ⟨d, o, f⟩ ⟨b2, o2, u2⟩), .int .i64 (rowBy ⟨d, o, f⟩ ⟨c2, f2, i2⟩), .int .i64 (rowBy ⟨g, u, i⟩ ⟨a2, d2, g2⟩), .int .i64 0, .int .i64 0, .int .i64 ((turned ⟨⟨a, b, c⟩, ⟨d, o, f⟩, ⟨g, u, i⟩⟩ ⟨p2, q2, r2⟩).x + p), .int .i64 ((turned ⟨⟨a, b, c⟩, ⟨d, o, f⟩, ⟨g, u, i⟩⟩ ⟨p2, q2, r2⟩).y + q), .int .i64 ((turned ⟨⟨a, b, c⟩, ⟨d, o, f⟩, ⟨g, u, i⟩⟩ ⟨p2, q2, r2⟩).z + r)] 31)) (by with_reducible repeat (first | exact ex_refl _ | apply ex_alloc | apply ex_plus | apply ex_drew | apply ex_drewN)) (fun y0 => ?_)
  rw [rounds_succ]
  go_wp2_with (go_at_call 20; refine (plus_post (rmay_calls _ _ _ _ _ _ _ _ _ _ _ _ _)).mono ?_; rintro e w' ⟨rfl, nx, rfl⟩)
  refine region_tail 26 (by kernel_rfl) (by kernel_rfl) ?_
  simp only [List.take_succ_cons, List.take_zero, List.drop_succ_cons, List.drop_zero]
  (repeat (go_big_quiet_step ((go_at_call 36; exact plus_of (rby_calls _ _ _ _ _ _ (by assumption) (by assumption) _)))))
  refine wpQuiet_nil ?_
  rintro _ ⟨x2, rfl⟩
  go_wp2_with (go_at_call 20; refine (plus_post (rmay_calls _ _ _ _ _ _ _ _ _ _ _ _ _)).mono ?_; rintro e w' ⟨rfl, nx, rfl⟩)
  refine soak ((plus (plus (plus (((w.alloc (.cells #[.int .i64 a, .int .i64 b, .int .i64 c, .int .i64 d, .int .i64 o, .int .i64 f, .int .i64 g, .int .i64 u, .int .i64 i, .int .i64 p, .int .i64 q, .int .i64 r] 31)).alloc (.cells #[.int .i64 a2, .int .i64 b2, .int .i64 c2, .int .i64 d2, .int .i64 o2, .int .i64 f2, .int .i64 g2, .int .i64 u2, .int .i64 i2, .int .i64 p2, .int .i64 q2, .int .i64 r2] 31)).alloc (.cells #[.int .i64 0, .int .i64 0, .int .i64 0, .int .i64 0, .int .i64 0, .int .i64 0, .int .i64 0, .int .i64 0, .int .i64 0, .int .i64 0, .int .i64 0, .int .i64 0] 31)) _) _) _).alloc (.cells #[.int .i64 (rowBy ⟨a, b, c⟩ ⟨a2, d2, g2⟩), .int .i64 (rowBy ⟨a, b, c⟩ ⟨b2, o2, u2⟩), .int .i64 (rowBy ⟨a, b, c⟩ ⟨c2, f2, i2⟩), .int .i64 (rowBy ⟨d, o, f⟩ ⟨a2, d2, g2⟩), .int .i64 (rowBy ⟨d, o, f⟩ ⟨b2, o2, u2⟩), .int .i64 (rowBy ⟨d, o, f⟩ ⟨c2, f2, i2⟩), .int .i64 (rowBy ⟨g, u, i⟩ ⟨a2, d2, g2⟩), .int .i64 (rowBy ⟨g, u, i⟩ ⟨b2, o2, u2⟩), .int .i64 0, .int .i64 ((turned ⟨⟨a, b, c⟩, ⟨d, o, f⟩, ⟨g, u, i⟩⟩ ⟨p2, q2, r2⟩).x + p), .int .i64 ((turned ⟨⟨a, b, c⟩, ⟨d, o, f⟩, ⟨g, u, i⟩⟩ ⟨p2, q2, r2⟩).y + q), .int .i64 ((turned ⟨⟨a, b, c⟩, ⟨d, o, f⟩, ⟨g, u, i⟩⟩ ⟨p2, q2, r2⟩).z + r)] 31)) (by with_reducible repeat (first | exact ex_refl _ | apply ex_alloc | apply ex_plus | apply ex_drew | apply ex_drewN)) (fun y0 => ?_)
  rw [rounds_succ]
  go_wp2_with (go_at_call 20; refine (plus_post (rmay_calls _ _ _ _ _ _ _ _ _ _ _ _ _)).mono ?_; rintro e w' ⟨rfl, nx, rfl⟩)
  refine region_tail 26 (by kernel_rfl) (by kernel_rfl) ?_
  simp only [List.take_succ_cons, List.take_zero, List.drop_succ_cons, List.drop_zero]
  (repeat (go_big_quiet_step ((go_at_call 36; exact plus_of (rby_calls _ _ _ _ _ _ (by assumption) (by assumption) _)))))
  refine wpQuiet_nil ?_
  rintro _ ⟨x2, rfl⟩
  go_wp2_with (go_at_call 20; refine (plus_post (rmay_calls _ _ _ _ _ _ _ _ _ _ _ _ _)).mono ?_; rintro e w' ⟨rfl, nx, rfl⟩)
  refine soak ((plus (plus (plus (((w.alloc (.cells #[.int .i64 a, .int .i64 b, .int .i64 c, .int .i64 d, .int .i64 o, .int .i64 f, .int .i64 g, .int .i64 u, .int .i64 i, .int .i64 p, .int .i64 q, .int .i64 r] 31)).alloc (.cells #[.int .i64 a2, .int .i64 b2, .int .i64 c2, .int .i64 d2, .int .i64 o2, .int .i64 f2, .int .i64 g2, .int .i64 u2, .int .i64 i2, .int .i64 p2, .int .i64 q2, .int .i64 r2] 31)).alloc (.cells #[.int .i64 0, .int .i64 0, .int .i64 0, .int .i64 0, .int .i64 0, .int .i64 0, .int .i64 0, .int .i64 0, .int .i64 0, .int .i64 0, .int .i64 0, .int .i64 0] 31)) _) _) _).alloc (.cells #[.int .i64 (rowBy ⟨a, b, c⟩ ⟨a2, d2, g2⟩), .int .i64 (rowBy ⟨a, b, c⟩ ⟨b2, o2, u2⟩), .int .i64 (rowBy ⟨a, b, c⟩ ⟨c2, f2, i2⟩), .int .i64 (rowBy ⟨d, o, f⟩ ⟨a2, d2, g2⟩), .int .i64 (rowBy ⟨d, o, f⟩ ⟨b2, o2, u2⟩), .int .i64 (rowBy ⟨d, o, f⟩ ⟨c2, f2, i2⟩), .int .i64 (rowBy ⟨g, u, i⟩ ⟨a2, d2, g2⟩), .int .i64 (rowBy ⟨g, u, i⟩ ⟨b2, o2, u2⟩), .int .i64 (rowBy ⟨g, u, i⟩ ⟨c2, f2, i2⟩), .int .i64 ((turned ⟨⟨a, b, c⟩, ⟨d, o, f⟩, ⟨g, u, i⟩⟩ ⟨p2, q2, r2⟩).x + p), .int .i64 ((turned ⟨⟨a, b, c⟩, ⟨d, o, f⟩, ⟨g, u, i⟩⟩ ⟨p2, q2, r2⟩).y + q), .int .i64 ((turned ⟨⟨a, b, c⟩, ⟨d, o, f⟩, ⟨g, u, i⟩⟩ ⟨p2, q2, r2⟩).z + r)] 31)) (by with_reducible repeat (first | exact ex_refl _ | apply ex_alloc | apply ex_plus | apply ex_drew | apply ex_drewN)) (fun y0 => ?_)
  rw [rounds_succ]
  go_wp2_with (go_at_call 20; refine (plus_post (rmay_calls _ _ _ _ _ _ _ _ _ _ _ _ _)).mono ?_; rintro e w' ⟨rfl, nx, rfl⟩)
  rw [rounds_succ]
  go_wp2_with (go_at_call 20; refine (plus_post (rmay_calls _ _ _ _ _ _ _ _ _ _ _ _ _)).mono ?_; rintro e w' ⟨rfl, nx, rfl⟩)
  exact bodyPost_ret (v := .tuple #[.agg #[.int .i64 (rowBy ⟨a, b, c⟩ ⟨a2, d2, g2⟩), .int .i64 (rowBy ⟨a, b, c⟩ ⟨b2, o2, u2⟩), .int .i64 (rowBy ⟨a, b, c⟩ ⟨c2, f2, i2⟩), .int .i64 (rowBy ⟨d, o, f⟩ ⟨a2, d2, g2⟩), .int .i64 (rowBy ⟨d, o, f⟩ ⟨b2, o2, u2⟩), .int .i64 (rowBy ⟨d, o, f⟩ ⟨c2, f2, i2⟩), .int .i64 (rowBy ⟨g, u, i⟩ ⟨a2, d2, g2⟩), .int .i64 (rowBy ⟨g, u, i⟩ ⟨b2, o2, u2⟩), .int .i64 (rowBy ⟨g, u, i⟩ ⟨c2, f2, i2⟩), .int .i64 ((turned ⟨⟨a, b, c⟩, ⟨d, o, f⟩, ⟨g, u, i⟩⟩ ⟨p2, q2, r2⟩).x + p), .int .i64 ((turned ⟨⟨a, b, c⟩, ⟨d, o, f⟩, ⟨g, u, i⟩⟩ ⟨p2, q2, r2⟩).y + q), .int .i64 ((turned ⟨⟨a, b, c⟩, ⟨d, o, f⟩, ⟨g, u, i⟩⟩ ⟨p2, q2, r2⟩).z + r)], .int .i64 0]) (by simp [results, Try.results23, go_sem, ↓IntWalk.iteOmega]) rfl ⟨rfl, by with_reducible repeat (first | exact Below.refl _ _ | apply ba | apply bp | apply bd | apply bn)⟩

end Go.Proofs.Ytokammhfkmgjeaa
