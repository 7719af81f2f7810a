/- What vec.product gives. -/
import Derived.Test.YtokammhfkmgjeaaVec2
namespace Go.Proofs.Ytokammhfkmgjeaa
open Go.RowKit Go.ChangeShapes Go.WideShapes Go.ChangeAt
set_option linter.unusedSimpArgs false
set_option linter.unusedVariables false
attribute [local go_sem] plus_size plus_drew dn_set dn_alloc dn_plus plus_dn cell_plus frozen_plus set_plus cell_alloc frozen_alloc set_alloc

attribute [local go_sem] ix3_0 ix3_1 ix3_2 ix9_0 ix9_1 ix9_2

set_option maxHeartbeats 4000000 in
theorem product_calls (a b c d o f g u i a2 b2 c2 d2 o2 f2 g2 u2 i2 : Int) (hm : all9 ⟨⟨a, b, c⟩, ⟨d, o, f⟩, ⟨g, u, i⟩⟩ 1024 = true) (hn : all9 ⟨⟨a2, b2, c2⟩, ⟨d2, o2, f2⟩, ⟨g2, u2, i2⟩⟩ 1024 = true) (w : World) :
    Calls Try.prog 30 #[.agg #[.int .i64 a, .int .i64 b, .int .i64 c, .int .i64 d, .int .i64 o, .int .i64 f, .int .i64 g, .int .i64 u, .int .i64 i], .agg #[.int .i64 a2, .int .i64 b2, .int .i64 c2, .int .i64 d2, .int .i64 o2, .int .i64 f2, .int .i64 g2, .int .i64 u2, .int .i64 i2]] w fun e w' => e = .returned (.agg #[.int .i64 (rowBy ⟨a, b, c⟩ ⟨a2, d2, g2⟩), .int .i64 (rowBy ⟨a, b, c⟩ ⟨b2, o2, u2⟩), .int .i64 (rowBy ⟨a, b, c⟩ ⟨c2, f2, i2⟩), .int .i64 (rowBy ⟨d, o, f⟩ ⟨a2, d2, g2⟩), .int .i64 (rowBy ⟨d, o, f⟩ ⟨b2, o2, u2⟩), .int .i64 (rowBy ⟨d, o, f⟩ ⟨c2, f2, i2⟩), .int .i64 (rowBy ⟨g, u, i⟩ ⟨a2, d2, g2⟩), .int .i64 (rowBy ⟨g, u, i⟩ ⟨b2, o2, u2⟩), .int .i64 (rowBy ⟨g, u, i⟩ ⟨c2, f2, i2⟩)]) ∧ Below w.heap.size w w' := by
  obtain ⟨r1, r2, r3⟩ := all9_of hm
  obtain ⟨s1, s2, s3⟩ := all9_of (flip_all hn)
  simp only [flipped] at r1 r2 r3 s1 s2 s3
  replace s1 := all3_mono (k := 32768) (by omega) s1
  replace s2 := all3_mono (k := 32768) (by omega) s2
  replace s3 := all3_mono (k := 32768) (by omega) s3
  clear hm hn
  go_enter Try.func30, Try.ntmps30
  go_wp2_with (go_at_call 40; refine (plus_post (flipped_calls _ _ _ _ _ _ _ _ _ _)).mono ?_; rintro e w' ⟨rfl, nx, rfl⟩)
  refine wp_loop_rounds 4 ?_
  refine soak (((plus (((w.alloc (.cells #[.int .i64 a, .int .i64 b, .int .i64 c, .int .i64 d, .int .i64 o, .int .i64 f, .int .i64 g, .int .i64 u, .int .i64 i] 28)).alloc (.cells #[.int .i64 a2, .int .i64 b2, .int .i64 c2, .int .i64 d2, .int .i64 o2, .int .i64 f2, .int .i64 g2, .int .i64 u2, .int .i64 i2] 28)).alloc (.cells #[.int .i64 0, .int .i64 0, .int .i64 0, .int .i64 0, .int .i64 0, .int .i64 0, .int .i64 0, .int .i64 0, .int .i64 0] 28)) nx).alloc (.cells #[.int .i64 a2, .int .i64 d2, .int .i64 g2, .int .i64 b2, .int .i64 o2, .int .i64 u2, .int .i64 c2, .int .i64 f2, .int .i64 i2] 28)).alloc (.cells #[.int .i64 0, .int .i64 0, .int .i64 0, .int .i64 0, .int .i64 0, .int .i64 0, .int .i64 0, .int .i64 0, .int .i64 0] 28)) (by with_reducible repeat (first | exact ex_refl _ | apply ex_alloc | apply ex_plus | apply ex_drew | apply ex_drewN)) (fun y0 => ?_)
  rw [rounds_succ]
  go_wp2_with (go_at_call 40; refine (plus_post (flipped_calls _ _ _ _ _ _ _ _ _ _)).mono ?_; rintro e w' ⟨rfl, nx, rfl⟩)
  refine wp_loop_rounds 4 ?_
  rw [rounds_succ]
  go_wp2_with (go_at_call 40; refine (plus_post (flipped_calls _ _ _ _ _ _ _ _ _ _)).mono ?_; rintro e w' ⟨rfl, nx, rfl⟩)
  refine region_tail 7 (by kernel_rfl) (by kernel_rfl) ?_
  simp only [List.take_succ_cons, List.take_zero, List.drop_succ_cons, List.drop_zero]
  (repeat (go_big_quiet_step ((go_at_call 38; exact plus_of (rowBy_calls _ _ _ _ _ _ (by assumption) (by assumption) _)))))
  refine wpQuiet_nil ?_
  rintro _ ⟨x2, rfl⟩
  go_wp2_with (go_at_call 40; refine (plus_post (flipped_calls _ _ _ _ _ _ _ _ _ _)).mono ?_; rintro e w' ⟨rfl, nx, rfl⟩)
  refine soak ((plus (((plus (((w.alloc (.cells #[.int .i64 a, .int .i64 b, .int .i64 c, .int .i64 d, .int .i64 o, .int .i64 f, .int .i64 g, .int .i64 u, .int .i64 i] 28)).alloc (.cells #[.int .i64 a2, .int .i64 b2, .int .i64 c2, .int .i64 d2, .int .i64 o2, .int .i64 f2, .int .i64 g2, .int .i64 u2, .int .i64 i2] 28)).alloc (.cells #[.int .i64 0, .int .i64 0, .int .i64 0, .int .i64 0, .int .i64 0, .int .i64 0, .int .i64 0, .int .i64 0, .int .i64 0] 28)) nx).alloc (.cells #[.int .i64 a2, .int .i64 d2, .int .i64 g2, .int .i64 b2, .int .i64 o2, .int .i64 u2, .int .i64 c2, .int .i64 f2, .int .i64 i2] 28)).alloc (.cells #[.int .i64 (rowBy ⟨a, b, c⟩ ⟨a2, d2, g2⟩), .int .i64 0, .int .i64 0, .int .i64 0, .int .i64 0, .int .i64 0, .int .i64 0, .int .i64 0, .int .i64 0] 28)) y0).alloc (.cells #[.int .i64 a, .int .i64 b, .int .i64 c] 27)) (by with_reducible repeat (first | exact ex_refl _ | apply ex_alloc | apply ex_plus | apply ex_drew | apply ex_drewN)) (fun z0 => ?_)
  rw [rounds_succ]
  go_wp2_with (go_at_call 40; refine (plus_post (flipped_calls _ _ _ _ _ _ _ _ _ _)).mono ?_; rintro e w' ⟨rfl, nx, rfl⟩)
  refine region_tail 7 (by kernel_rfl) (by kernel_rfl) ?_
  simp only [List.take_succ_cons, List.take_zero, List.drop_succ_cons, List.drop_zero]
  (repeat (go_big_quiet_step ((go_at_call 38; exact plus_of (rowBy_calls _ _ _ _ _ _ (by assumption) (by assumption) _)))))
  refine wpQuiet_nil ?_
  rintro _ ⟨x2, rfl⟩
  go_wp2_with (go_at_call 40; refine (plus_post (flipped_calls _ _ _ _ _ _ _ _ _ _)).mono ?_; rintro e w' ⟨rfl, nx, rfl⟩)
  refine soak ((plus (((plus (((w.alloc (.cells #[.int .i64 a, .int .i64 b, .int .i64 c, .int .i64 d, .int .i64 o, .int .i64 f, .int .i64 g, .int .i64 u, .int .i64 i] 28)).alloc (.cells #[.int .i64 a2, .int .i64 b2, .int .i64 c2, .int .i64 d2, .int .i64 o2, .int .i64 f2, .int .i64 g2, .int .i64 u2, .int .i64 i2] 28)).alloc (.cells #[.int .i64 0, .int .i64 0, .int .i64 0, .int .i64 0, .int .i64 0, .int .i64 0, .int .i64 0, .int .i64 0, .int .i64 0] 28)) nx).alloc (.cells #[.int .i64 a2, .int .i64 d2, .int .i64 g2, .int .i64 b2, .int .i64 o2, .int .i64 u2, .int .i64 c2, .int .i64 f2, .int .i64 i2] 28)).alloc (.cells #[.int .i64 (rowBy ⟨a, b, c⟩ ⟨a2, d2, g2⟩), .int .i64 (rowBy ⟨a, b, c⟩ ⟨b2, o2, u2⟩), .int .i64 0, .int .i64 0, .int .i64 0, .int .i64 0, .int .i64 0, .int .i64 0, .int .i64 0] 28)) y0).alloc (.cells #[.int .i64 a, .int .i64 b, .int .i64 c] 27)) (by with_reducible repeat (first | exact ex_refl _ | apply ex_alloc | apply ex_plus | apply ex_drew | apply ex_drewN)) (fun z1 => ?_)
  rw [rounds_succ]
  go_wp2_with (go_at_call 40; refine (plus_post (flipped_calls _ _ _ _ _ _ _ _ _ _)).mono ?_; rintro e w' ⟨rfl, nx, rfl⟩)
  refine region_tail 7 (by kernel_rfl) (by kernel_rfl) ?_
  simp only [List.take_succ_cons, List.take_zero, List.drop_succ_cons, List.drop_zero]
  (repeat (go_big_quiet_step ((go_at_call 38; exact plus_of (rowBy_calls _ _ _ _ _ _ (by assumption) (by assumption) _)))))
  refine wpQuiet_nil ?_
  rintro _ ⟨x2, rfl⟩
  go_wp2_with (go_at_call 40; refine (plus_post (flipped_calls _ _ _ _ _ _ _ _ _ _)).mono ?_; rintro e w' ⟨rfl, nx, rfl⟩)
  refine soak ((plus (((plus (((w.alloc (.cells #[.int .i64 a, .int .i64 b, .int .i64 c, .int .i64 d, .int .i64 o, .int .i64 f, .int .i64 g, .int .i64 u, .int .i64 i] 28)).alloc (.cells #[.int .i64 a2, .int .i64 b2, .int .i64 c2, .int .i64 d2, .int .i64 o2, .int .i64 f2, .int .i64 g2, .int .i64 u2, .int .i64 i2] 28)).alloc (.cells #[.int .i64 0, .int .i64 0, .int .i64 0, .int .i64 0, .int .i64 0, .int .i64 0, .int .i64 0, .int .i64 0, .int .i64 0] 28)) nx).alloc (.cells #[.int .i64 a2, .int .i64 d2, .int .i64 g2, .int .i64 b2, .int .i64 o2, .int .i64 u2, .int .i64 c2, .int .i64 f2, .int .i64 i2] 28)).alloc (.cells #[.int .i64 (rowBy ⟨a, b, c⟩ ⟨a2, d2, g2⟩), .int .i64 (rowBy ⟨a, b, c⟩ ⟨b2, o2, u2⟩), .int .i64 (rowBy ⟨a, b, c⟩ ⟨c2, f2, i2⟩), .int .i64 0, .int .i64 0, .int .i64 0, .int .i64 0, .int .i64 0, .int .i64 0] 28)) y0).alloc (.cells #[.int .i64 a, .int .i64 b, .int .i64 c] 27)) (by with_reducible repeat (first | exact ex_refl _ | apply ex_alloc | apply ex_plus | apply ex_drew | apply ex_drewN)) (fun z2 => ?_)
  rw [rounds_succ]
  go_wp2_with (go_at_call 40; refine (plus_post (flipped_calls _ _ _ _ _ _ _ _ _ _)).mono ?_; rintro e w' ⟨rfl, nx, rfl⟩)
  refine soak (((plus (((w.alloc (.cells #[.int .i64 a, .int .i64 b, .int .i64 c, .int .i64 d, .int .i64 o, .int .i64 f, .int .i64 g, .int .i64 u, .int .i64 i] 28)).alloc (.cells #[.int .i64 a2, .int .i64 b2, .int .i64 c2, .int .i64 d2, .int .i64 o2, .int .i64 f2, .int .i64 g2, .int .i64 u2, .int .i64 i2] 28)).alloc (.cells #[.int .i64 0, .int .i64 0, .int .i64 0, .int .i64 0, .int .i64 0, .int .i64 0, .int .i64 0, .int .i64 0, .int .i64 0] 28)) nx).alloc (.cells #[.int .i64 a2, .int .i64 d2, .int .i64 g2, .int .i64 b2, .int .i64 o2, .int .i64 u2, .int .i64 c2, .int .i64 f2, .int .i64 i2] 28)).alloc (.cells #[.int .i64 (rowBy ⟨a, b, c⟩ ⟨a2, d2, g2⟩), .int .i64 (rowBy ⟨a, b, c⟩ ⟨b2, o2, u2⟩), .int .i64 (rowBy ⟨a, b, c⟩ ⟨c2, f2, i2⟩), .int .i64 0, .int .i64 0, .int .i64 0, .int .i64 0, .int .i64 0, .int .i64 0] 28)) (by with_reducible repeat (first | exact ex_refl _ | apply ex_alloc | apply ex_plus | apply ex_drew | apply ex_drewN)) (fun y1 => ?_)
  rw [rounds_succ]
  go_wp2_with (go_at_call 40; refine (plus_post (flipped_calls _ _ _ _ _ _ _ _ _ _)).mono ?_; rintro e w' ⟨rfl, nx, rfl⟩)
  refine wp_loop_rounds 4 ?_
  rw [rounds_succ]
  go_wp2_with (go_at_call 40; refine (plus_post (flipped_calls _ _ _ _ _ _ _ _ _ _)).mono ?_; rintro e w' ⟨rfl, nx, rfl⟩)
  refine region_tail 7 (by kernel_rfl) (by kernel_rfl) ?_
  simp only [List.take_succ_cons, List.take_zero, List.drop_succ_cons, List.drop_zero]
  (repeat (go_big_quiet_step ((go_at_call 38; exact plus_of (rowBy_calls _ _ _ _ _ _ (by assumption) (by assumption) _)))))
  refine wpQuiet_nil ?_
  rintro _ ⟨x2, rfl⟩
  go_wp2_with (go_at_call 40; refine (plus_post (flipped_calls _ _ _ _ _ _ _ _ _ _)).mono ?_; rintro e w' ⟨rfl, nx, rfl⟩)
  refine soak ((plus (((plus (((w.alloc (.cells #[.int .i64 a, .int .i64 b, .int .i64 c, .int .i64 d, .int .i64 o, .int .i64 f, .int .i64 g, .int .i64 u, .int .i64 i] 28)).alloc (.cells #[.int .i64 a2, .int .i64 b2, .int .i64 c2, .int .i64 d2, .int .i64 o2, .int .i64 f2, .int .i64 g2, .int .i64 u2, .int .i64 i2] 28)).alloc (.cells #[.int .i64 0, .int .i64 0, .int .i64 0, .int .i64 0, .int .i64 0, .int .i64 0, .int .i64 0, .int .i64 0, .int .i64 0] 28)) nx).alloc (.cells #[.int .i64 a2, .int .i64 d2, .int .i64 g2, .int .i64 b2, .int .i64 o2, .int .i64 u2, .int .i64 c2, .int .i64 f2, .int .i64 i2] 28)).alloc (.cells #[.int .i64 (rowBy ⟨a, b, c⟩ ⟨a2, d2, g2⟩), .int .i64 (rowBy ⟨a, b, c⟩ ⟨b2, o2, u2⟩), .int .i64 (rowBy ⟨a, b, c⟩ ⟨c2, f2, i2⟩), .int .i64 (rowBy ⟨d, o, f⟩ ⟨a2, d2, g2⟩), .int .i64 0, .int .i64 0, .int .i64 0, .int .i64 0, .int .i64 0] 28)) y1).alloc (.cells #[.int .i64 d, .int .i64 o, .int .i64 f] 27)) (by with_reducible repeat (first | exact ex_refl _ | apply ex_alloc | apply ex_plus | apply ex_drew | apply ex_drewN)) (fun z0 => ?_)
  rw [rounds_succ]
  go_wp2_with (go_at_call 40; refine (plus_post (flipped_calls _ _ _ _ _ _ _ _ _ _)).mono ?_; rintro e w' ⟨rfl, nx, rfl⟩)
  refine region_tail 7 (by kernel_rfl) (by kernel_rfl) ?_
  simp only [List.take_succ_cons, List.take_zero, List.drop_succ_cons, List.drop_zero]
  (repeat (go_big_quiet_step ((go_at_call 38; exact plus_of (rowBy_calls _ _ _ _ _ _ (by assumption) (by assumption) _)))))
  refine wpQuiet_nil ?_
  rintro _ ⟨x2, rfl⟩
  go_wp2_with (go_at_call 40; refine (plus_post (flipped_calls _ _ _ _ _ _ _ _ _ _)).mono ?_; rintro e w' ⟨rfl, nx, rfl⟩)
  refine soak ((plus (((plus (((w.alloc (.cells #[.int .i64 a, .int .i64 b, .int .i64 c, .int .i64 d, .int .i64 o, .int .i64 f, .int .i64 g, .int .i64 u, .int .i64 i] 28)).alloc (.cells #[.int .i64 a2, .int .i64 b2, .int .i64 c2, .int .i64 d2, .int .i64 o2, .int .i64 f2, .int .i64 g2, .int .i64 u2, .int .i64 i2] 28)).alloc (.cells #[.int .i64 0, .int .i64 0, .int .i64 0, .int .i64 0, .int .i64 0, .int .i64 0, .int .i64 0, .int .i64 0, .int .i64 0] 28)) nx).alloc (.cells #[.int .i64 a2, .int .i64 d2, .int .i64 g2, .int .i64 b2, .int .i64 o2, .int .i64 u2, .int .i64 c2, .int .i64 f2, .int .i64 i2] 28)).alloc (.cells #[.int .i64 (rowBy ⟨a, b, c⟩ ⟨a2, d2, g2⟩), .int .i64 (rowBy ⟨a, b, c⟩ ⟨b2, o2, u2⟩), .int .i64 (rowBy ⟨a, b, c⟩ ⟨c2, f2, i2⟩), .int .i64 (rowBy ⟨d, o, f⟩ ⟨a2, d2, g2⟩), .int .i64 (rowBy ⟨d, o, f⟩ ⟨b2, o2, u2⟩), .int .i64 0, .int .i64 0, .int .i64 0, .int .i64 0] 28)) y1).alloc (.cells #[.int .i64 d, .int .i64 o, .int .i64 f] 27)) (by with_reducible repeat (first | exact ex_refl _ | apply ex_alloc | apply ex_plus | apply ex_drew | apply ex_drewN)) (fun z1 => ?_)
  rw [rounds_succ]
  go_wp2_with (go_at_call 40; refine (plus_post (flipped_calls _ _ _ _ _ _ _ _ _ _)).mono ?_; rintro e w' ⟨rfl, nx, rfl⟩)
  refine region_tail 7 (by kernel_rfl) (by kernel_rfl) ?_
  simp only [List.take_succ_cons, List.take_zero, List.drop_succ_cons, List.drop_zero]
  (repeat (go_big_quiet_step ((go_at_call 38; exact plus_of (rowBy_calls _ _ _ _ _ _ (by assumption) (by assumption) _)))))
  refine wpQuiet_nil ?_
  rintro _ ⟨x2, rfl⟩
  go_wp2_with (go_at_call 40; refine (plus_post (flipped_calls _ _ _ _ _ _ _ _ _ _)).mono ?_; rintro e w' ⟨rfl, nx, rfl⟩)
  refine soak ((plus (((plus (((w.alloc (.cells #[.int .i64 a, .int .i64 b, .int .i64 c, .int .i64 d, .int .i64 o, .int .i64 f, .int .i64 g, .int .i64 u, .int .i64 i] 28)).alloc (.cells #[.int .i64 a2, .int .i64 b2, .int .i64 c2, .int .i64 d2, .int .i64 o2, .int .i64 f2, .int .i64 g2, .int .i64 u2, .int .i64 i2] 28)).alloc (.cells #[.int .i64 0, .int .i64 0, .int .i64 0, .int .i64 0, .int .i64 0, .int .i64 0, .int .i64 0, .int .i64 0, .int .i64 0] 28)) nx).alloc (.cells #[.int .i64 a2, .int .i64 d2, .int .i64 g2, .int .i64 b2, .int .i64 o2, .int .i64 u2, .int .i64 c2, .int .i64 f2, .int .i64 i2] 28)).alloc (.cells #[.int .i64 (rowBy ⟨a, b, c⟩ ⟨a2, d2, g2⟩), .int .i64 (rowBy ⟨a, b, c⟩ ⟨b2, o2, u2⟩), .int .i64 (rowBy ⟨a, b, c⟩ ⟨c2, f2, i2⟩), .int .i64 (rowBy ⟨d, o, f⟩ ⟨a2, d2, g2⟩), .int .i64 (rowBy ⟨d, o, f⟩ ⟨b2, o2, u2⟩), .int .i64 (rowBy ⟨d, o, f⟩ ⟨c2, f2, i2⟩), .int .i64 0, .int .i64 0, .int .i64 0] 28)) y1).alloc (.cells #[.int .i64 d, .int .i64 o, .int .i64 f] 27)) (by with_reducible repeat (first | exact ex_refl _ | apply ex_alloc | apply ex_plus | apply ex_drew | apply ex_drewN)) (fun z2 => ?_)
  rw [rounds_succ]
  go_wp2_with (go_at_call 40; refine (plus_post (flipped_calls _ _ _ _ _ _ _ _ _ _)).mono ?_; rintro e w' ⟨rfl, nx, rfl⟩)
  refine soak (((plus (((w.alloc (.cells #[.int .i64 a, .int .i64 b, .int .i64 c, .int .i64 d, .int .i64 o, .int .i64 f, .int .i64 g, .int .i64 u, .int .i64 i] 28)).alloc (.cells #[.int .i64 a2, .int .i64 b2, .int .i64 c2, .int .i64 d2, .int .i64 o2, .int .i64 f2, .int .i64 g2, .int .i64 u2, .int .i64 i2] 28)).alloc (.cells #[.int .i64 0, .int .i64 0, .int .i64 0, .int .i64 0, .int .i64 0, .int .i64 0, .int .i64 0, .int .i64 0, .int .i64 0] 28)) nx).alloc (.cells #[.int .i64 a2, .int .i64 d2, .int .i64 g2, .int .i64 b2, .int .i64 o2, .int .i64 u2, .int .i64 c2, .int .i64 f2, .int .i64 i2] 28)).alloc (.cells #[.int .i64 (rowBy ⟨a, b, c⟩ ⟨a2, d2, g2⟩), .int .i64 (rowBy ⟨a, b, c⟩ ⟨b2, o2, u2⟩), .int .i64 (rowBy ⟨a, b, c⟩ ⟨c2, f2, i2⟩), .int .i64 (rowBy ⟨d, o, f⟩ ⟨a2, d2, g2⟩), .int .i64 (rowBy ⟨d, o, f⟩ ⟨b2, o2, u2⟩), .int .i64 (rowBy ⟨d, o, f⟩ ⟨c2, f2, i2⟩), .int .i64 0, .int .i64 0, .int .i64 0] 28)) (by with_reducible repeat (first | exact ex_refl _ | apply ex_alloc | apply ex_plus | apply ex_drew | apply ex_drewN)) (fun y2 => ?_)
  rw [rounds_succ]
  go_wp2_with (go_at_call 40; refine (plus_post (flipped_calls _ _ _ _ _ _ _ _ _ _)).mono ?_; rintro e w' ⟨rfl, nx, rfl⟩)
  refine wp_loop_rounds 4 ?_
  rw [rounds_succ]
  go_wp2_with (go_at_call 40; refine (plus_post (flipped_calls _ _ _ _ _ _ _ _ _ _)).mono ?_; rintro e w' ⟨rfl, nx, rfl⟩)
  refine region_tail 7 (by kernel_rfl) (by kernel_rfl) ?_
  simp only [List.take_succ_cons, List.take_zero, List.drop_succ_cons, List.drop_zero]
  (repeat (go_big_quiet_step ((go_at_call 38; exact plus_of (rowBy_calls _ _ _ _ _ _ (by assumption) (by assumption) _)))))
  refine wpQuiet_nil ?_
  rintro _ ⟨x2, rfl⟩
  go_wp2_with (go_at_call 40; refine (plus_post (flipped_calls _ _ _ _ _ _ _ _ _ _)).mono ?_; rintro e w' ⟨rfl, nx, rfl⟩)
  refine soak ((plus (((plus (((w.alloc (.cells #[.int .i64 a, .int .i64 b, .int .i64 c, .int .i64 d, .int .i64 o, .int .i64 f, .int .i64 g, .int .i64 u, .int .i64 i] 28)).alloc (.cells #[.int .i64 a2, .int .i64 b2, .int .i64 c2, .int .i64 d2, .int .i64 o2, .int .i64 f2, .int .i64 g2, .int .i64 u2, .int .i64 i2] 28)).alloc (.cells #[.int .i64 0, .int .i64 0, .int .i64 0, .int .i64 0, .int .i64 0, .int .i64 0, .int .i64 0, .int .i64 0, .int .i64 0] 28)) nx).alloc (.cells #[.int .i64 a2, .int .i64 d2, .int .i64 g2, .int .i64 b2, .int .i64 o2, .int .i64 u2, .int .i64 c2, .int .i64 f2, .int .i64 i2] 28)).alloc (.cells #[.int .i64 (rowBy ⟨a, b, c⟩ ⟨a2, d2, g2⟩), .int .i64 (rowBy ⟨a, b, c⟩ ⟨b2, o2, u2⟩), .int .i64 (rowBy ⟨a, b, c⟩ ⟨c2, f2, i2⟩), .int .i64 (rowBy ⟨d, o, f⟩ ⟨a2, d2, g2⟩), .int .i64 (rowBy ⟨d, o, f⟩ ⟨b2, o2, u2⟩), .int .i64 (rowBy ⟨d, o, f⟩ ⟨c2, f2, i2⟩), .int .i64 (rowBy ⟨g, u, i⟩ ⟨a2, d2, g2⟩), .int .i64 0, .int .i64 0] 28)) y2).alloc (.cells #[.int .i64 g, .int .i64 u, .int .i64 i] 27)) (by with_reducible repeat (first | exact ex_refl _ | apply ex_alloc | apply ex_plus | apply ex_drew | apply ex_drewN)) (fun z0 => ?_)
  rw [rounds_succ]
  go_wp2_with (go_at_call 40; refine (plus_post (flipped_calls _ _ _ _ _ _ _ _ _ _)).mono ?_; rintro e w' ⟨rfl, nx, rfl⟩)
  refine region_tail 7 (by kernel_rfl) (by kernel_rfl) ?_
  simp only [List.take_succ_cons, List.take_zero, List.drop_succ_cons, List.drop_zero]
  (repeat (go_big_quiet_step ((go_at_call 38; exact plus_of (rowBy_calls _ _ _ _ _ _ (by assumption) (by assumption) _)))))
  refine wpQuiet_nil ?_
  rintro _ ⟨x2, rfl⟩
  go_wp2_with (go_at_call 40; refine (plus_post (flipped_calls _ _ _ _ _ _ _ _ _ _)).mono ?_; rintro e w' ⟨rfl, nx, rfl⟩)
  refine soak ((plus (((plus (((w.alloc (.cells #[.int .i64 a, .int .i64 b, .int .i64 c, .int .i64 d, .int .i64 o, .int .i64 f, .int .i64 g, .int .i64 u, .int .i64 i] 28)).alloc (.cells #[.int .i64 a2, .int .i64 b2, .int .i64 c2, .int .i64 d2, .int .i64 o2, .int .i64 f2, .int .i64 g2, .int .i64 u2, .int .i64 i2] 28)).alloc (.cells #[.int .i64 0, .int .i64 0, .int .i64 0, .int .i64 0, .int .i64 0, .int .i64 0, .int .i64 0, .int .i64 0, .int .i64 0] 28)) nx).alloc (.cells #[.int .i64 a2, .int .i64 d2, .int .i64 g2, .int .i64 b2, .int .i64 o2, .int .i64 u2, .int .i64 c2, .int .i64 f2, .int .i64 i2] 28)).alloc (.cells #[.int .i64 (rowBy ⟨a, b, c⟩ ⟨a2, d2, g2⟩), .int .i64 (rowBy ⟨a, b, c⟩ ⟨b2, o2, u2⟩), .int .i64 (rowBy ⟨a, b, c⟩ ⟨c2, f2, i2⟩), .int .i64 (rowBy ⟨d, o, f⟩ ⟨a2, d2, g2⟩), .int .i64 (rowBy ⟨d, o, f⟩ ⟨b2, o2, u2⟩), .int .i64 (rowBy ⟨d, o, f⟩ ⟨c2, f2, i2⟩), .int .i64 (rowBy ⟨g, u, i⟩ ⟨a2, d2, g2⟩), .int .i64 (rowBy ⟨g, u, i⟩ ⟨b2, o2, u2⟩), .int .i64 0] 28)) y2).alloc (.cells #[.int .i64 g, .int .i64 u, .int .i64 i] 27)) (by with_reducible repeat (first | exact ex_refl _ | apply ex_alloc | apply ex_plus | apply ex_drew | apply ex_drewN)) (fun z1 => ?_)
  rw [rounds_succ]
  go_wp2_with (go_at_call 40; refine (plus_post (flipped_calls _ _ _ _ _ _ _ _ _ _)).mono ?_; rintro e w' ⟨rfl, nx, rfl⟩)
  refine region_tail 7 (by kernel_rfl) (by kernel_rfl) ?_
  simp only [List.take_succ_cons, List.take_zero, List.drop_succ_cons, List.drop_zero]
  (repeat (go_big_quiet_step ((go_at_call 38; exact plus_of (rowBy_calls _ _ _ _ _ _ (by assumption) (by assumption) _)))))
  refine wpQuiet_nil ?_
  rintro _ ⟨x2, rfl⟩
  go_wp2_with (go_at_call 40; refine (plus_post (flipped_calls _ _ _ _ _ _ _ _ _ _)).mono ?_; rintro e w' ⟨rfl, nx, rfl⟩)
  refine soak ((plus (((plus (((w.alloc (.cells #[.int .i64 a, .int .i64 b, .int .i64 c, .int .i64 d, .int .i64 o, .int .i64 f, .int .i64 g, .int .i64 u, .int .i64 i] 28)).alloc (.cells #[.int .i64 a2, .int .i64 b2, .int .i64 c2, .int .i64 d2, .int .i64 o2, .int .i64 f2, .int .i64 g2, .int .i64 u2, .int .i64 i2] 28)).alloc (.cells #[.int .i64 0, .int .i64 0, .int .i64 0, .int .i64 0, .int .i64 0, .int .i64 0, .int .i64 0, .int .i64 0, .int .i64 0] 28)) nx).alloc (.cells #[.int .i64 a2, .int .i64 d2, .int .i64 g2, .int .i64 b2, .int .i64 o2, .int .i64 u2, .int .i64 c2, .int .i64 f2, .int .i64 i2] 28)).alloc (.cells #[.int .i64 (rowBy ⟨a, b, c⟩ ⟨a2, d2, g2⟩), .int .i64 (rowBy ⟨a, b, c⟩ ⟨b2, o2, u2⟩), .int .i64 (rowBy ⟨a, b, c⟩ ⟨c2, f2, i2⟩), .int .i64 (rowBy ⟨d, o, f⟩ ⟨a2, d2, g2⟩), .int .i64 (rowBy ⟨d, o, f⟩ ⟨b2, o2, u2⟩), .int .i64 (rowBy ⟨d, o, f⟩ ⟨c2, f2, i2⟩), .int .i64 (rowBy ⟨g, u, i⟩ ⟨a2, d2, g2⟩), .int .i64 (rowBy ⟨g, u, i⟩ ⟨b2, o2, u2⟩), .int .i64 (rowBy ⟨g, u, i⟩ ⟨c2, f2, i2⟩)] 28)) y2).alloc (.cells #[.int .i64 g, .int .i64 u, .int .i64 i] 27)) (by with_reducible repeat (first | exact ex_refl _ | apply ex_alloc | apply ex_plus | apply ex_drew | apply ex_drewN)) (fun z2 => ?_)
  rw [rounds_succ]
  go_wp2_with (go_at_call 40; refine (plus_post (flipped_calls _ _ _ _ _ _ _ _ _ _)).mono ?_; rintro e w' ⟨rfl, nx, rfl⟩)
  refine soak (((plus (((w.alloc (.cells #[.int .i64 a, .int .i64 b, .int .i64 c, .int .i64 d, .int .i64 o, .int .i64 f, .int .i64 g, .int .i64 u, .int .i64 i] 28)).alloc (.cells #[.int .i64 a2, .int .i64 b2, .int .i64 c2, .int .i64 d2, .int .i64 o2, .int .i64 f2, .int .i64 g2, .int .i64 u2, .int .i64 i2] 28)).alloc (.cells #[.int .i64 0, .int .i64 0, .int .i64 0, .int .i64 0, .int .i64 0, .int .i64 0, .int .i64 0, .int .i64 0, .int .i64 0] 28)) nx).alloc (.cells #[.int .i64 a2, .int .i64 d2, .int .i64 g2, .int .i64 b2, .int .i64 o2, .int .i64 u2, .int .i64 c2, .int .i64 f2, .int .i64 i2] 28)).alloc (.cells #[.int .i64 (rowBy ⟨a, b, c⟩ ⟨a2, d2, g2⟩), .int .i64 (rowBy ⟨a, b, c⟩ ⟨b2, o2, u2⟩), .int .i64 (rowBy ⟨a, b, c⟩ ⟨c2, f2, i2⟩), .int .i64 (rowBy ⟨d, o, f⟩ ⟨a2, d2, g2⟩), .int .i64 (rowBy ⟨d, o, f⟩ ⟨b2, o2, u2⟩), .int .i64 (rowBy ⟨d, o, f⟩ ⟨c2, f2, i2⟩), .int .i64 (rowBy ⟨g, u, i⟩ ⟨a2, d2, g2⟩), .int .i64 (rowBy ⟨g, u, i⟩ ⟨b2, o2, u2⟩), .int .i64 (rowBy ⟨g, u, i⟩ ⟨c2, f2, i2⟩)] 28)) (by with_reducible repeat (first | exact ex_refl _ | apply ex_alloc | apply ex_plus | apply ex_drew | apply ex_drewN)) (fun y3 => ?_)
  rw [rounds_succ]
  go_wp2_with (go_at_call 40; refine (plus_post (flipped_calls _ _ _ _ _ _ _ _ _ _)).mono ?_; rintro e w' ⟨rfl, nx, rfl⟩)
  exact bodyPost_ret (v := .agg #[.int .i64 (rowBy ⟨a, b, c⟩ ⟨a2, d2, g2⟩), .int .i64 (rowBy ⟨a, b, c⟩ ⟨b2, o2, u2⟩), .int .i64 (rowBy ⟨a, b, c⟩ ⟨c2, f2, i2⟩), .int .i64 (rowBy ⟨d, o, f⟩ ⟨a2, d2, g2⟩), .int .i64 (rowBy ⟨d, o, f⟩ ⟨b2, o2, u2⟩), .int .i64 (rowBy ⟨d, o, f⟩ ⟨c2, f2, i2⟩), .int .i64 (rowBy ⟨g, u, i⟩ ⟨a2, d2, g2⟩), .int .i64 (rowBy ⟨g, u, i⟩ ⟨b2, o2, u2⟩), .int .i64 (rowBy ⟨g, u, i⟩ ⟨c2, f2, i2⟩)]) (by simp [results, Try.results30, go_sem, ↓IntWalk.iteOmega]) rfl ⟨rfl, by with_reducible repeat (first | exact Below.refl _ _ | apply ba | apply bp | apply bd | apply bn)⟩

end Go.Proofs.Ytokammhfkmgjeaa
