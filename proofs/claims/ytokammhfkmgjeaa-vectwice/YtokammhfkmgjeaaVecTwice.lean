/- VecTwice is proved: where all numbers of two matrices' M are multiples of 256, the image by one behind the other is the image of the image: the call returns true for any two and any point. No condition. -/
import Derived.Test.YtokammhfkmgjeaaFlat
import Derived.Test.YtokammhfkmgjeaaVec8
import Derived.Test.YtokammhfkmgjeaaVec10
namespace Go.Proofs.Ytokammhfkmgjeaa
open Go.RowKit Go.ChangeShapes Go.WideShapes Go.ChangeAt
set_option linter.unusedSimpArgs false
set_option linter.unusedVariables false
attribute [local go_sem] plus_size plus_drew dn_set dn_alloc dn_plus plus_dn cell_plus frozen_plus set_plus cell_alloc frozen_alloc set_alloc

attribute [local go_sem] ix3_0 ix3_1 ix3_2 ix9_0 ix9_1 ix9_2 eq9L

theorem row_mult (a b c x y z : Int) : rowBy ⟨a * 256, b * 256, c * 256⟩ ⟨x, y, z⟩ = a * x + b * y + c * z := by
  have e : dot ⟨a * 256, b * 256, c * 256⟩ ⟨x, y, z⟩ = (a * x + b * y + c * z) * 256 := by
    simp only [dot, Int.add_mul, Int.mul_assoc, Int.mul_comm 256]
  rw [rowBy, e, Int.mul_ediv_cancel _ (by decide)]

theorem twice_row (a b c d o f g u i p q r x y z t s k : Int) :
    a * (d * x + o * y + f * z + t) + b * (g * x + u * y + i * z + s) + c * (p * x + q * y + r * z + k) =
    (a * d + b * g + c * p) * x + (a * o + b * u + c * q) * y + (a * f + b * i + c * r) * z + (a * t + b * s + c * k) := by
  simp only [Int.mul_add, Int.add_mul, Int.mul_assoc]
  omega

theorem twice_moved (a b c d o f g u i p q r a2 b2 c2 d2 o2 f2 g2 u2 i2 p2 q2 r2 x y z : Int) :
    moved ⟨⟨⟨a * 256, b * 256, c * 256⟩, ⟨d * 256, o * 256, f * 256⟩, ⟨g * 256, u * 256, i * 256⟩⟩, ⟨p, q, r⟩⟩ (moved ⟨⟨⟨a2 * 256, b2 * 256, c2 * 256⟩, ⟨d2 * 256, o2 * 256, f2 * 256⟩, ⟨g2 * 256, u2 * 256, i2 * 256⟩⟩, ⟨p2, q2, r2⟩⟩ ⟨x, y, z⟩) = moved (mulM ⟨⟨⟨a * 256, b * 256, c * 256⟩, ⟨d * 256, o * 256, f * 256⟩, ⟨g * 256, u * 256, i * 256⟩⟩, ⟨p, q, r⟩⟩ ⟨⟨⟨a2 * 256, b2 * 256, c2 * 256⟩, ⟨d2 * 256, o2 * 256, f2 * 256⟩, ⟨g2 * 256, u2 * 256, i2 * 256⟩⟩, ⟨p2, q2, r2⟩⟩) ⟨x, y, z⟩ := by
  have e : ∀ k l m x y z : Int, k * (x * 256) + l * (y * 256) + m * (z * 256) = (k * x + l * y + m * z) * 256 := by
    intro k l m x y z
    simp only [Int.add_mul, Int.mul_assoc]
  simp only [moved, mulM, vplus, turned, product, rowByAll, flipped, row_mult, e, V3.mk.injEq]
  refine ⟨?_, ?_, ?_⟩ <;> rw [twice_row] <;> omega

theorem twice {A B : Mt} {v : V3} (h : moved A (moved B v) = moved (mulM A B) v) (e1 : (mul A B).2 = 0) (e2 : (image B v).2 = 0) : image A (image B v).1 = image (mul A B).1 v := by
  unfold mul at e1 ⊢
  unfold image at e2 ⊢
  cases ha : mayM A <;> simp [ha] at e1
  cases hb : mayM B <;> simp [hb] at e1
  cases hab : mayM (mulM A B) <;> simp [hab] at e1
  simp only [hb, if_true] at e2
  cases hv : all3 v 4096 <;> simp [hv] at e2
  cases hw : all3 (moved B v) 4096 <;> simp [hw] at e2
  simp [ha, hb, hab, hv, hw, h]

theorem part (n : Int) : n = 0 ∨ (n == 0) = false := by
  by_cases h : n = 0
  · exact .inl h
  · exact .inr (by simpa using h)

set_option maxHeartbeats 8000000 in
set_option maxRecDepth 100000 in
theorem vecTwice_walk (a b c d o f g u i p q r a2 b2 c2 d2 o2 f2 g2 u2 i2 p2 q2 r2 x y z : Int) (_ : -9223372036854775808 ≤ a) (_ : a ≤ 9223372036854775807) (_ : -9223372036854775808 ≤ b) (_ : b ≤ 9223372036854775807) (_ : -9223372036854775808 ≤ c) (_ : c ≤ 9223372036854775807) (_ : -9223372036854775808 ≤ d) (_ : d ≤ 9223372036854775807) (_ : -9223372036854775808 ≤ o) (_ : o ≤ 9223372036854775807) (_ : -9223372036854775808 ≤ f) (_ : f ≤ 9223372036854775807) (_ : -9223372036854775808 ≤ g) (_ : g ≤ 9223372036854775807) (_ : -9223372036854775808 ≤ u) (_ : u ≤ 9223372036854775807) (_ : -9223372036854775808 ≤ i) (_ : i ≤ 9223372036854775807) (_ : -9223372036854775808 ≤ p) (_ : p ≤ 9223372036854775807) (_ : -9223372036854775808 ≤ q) (_ : q ≤ 9223372036854775807) (_ : -9223372036854775808 ≤ r) (_ : r ≤ 9223372036854775807) (_ : -9223372036854775808 ≤ a2) (_ : a2 ≤ 9223372036854775807) (_ : -9223372036854775808 ≤ b2) (_ : b2 ≤ 9223372036854775807) (_ : -9223372036854775808 ≤ c2) (_ : c2 ≤ 9223372036854775807) (_ : -9223372036854775808 ≤ d2) (_ : d2 ≤ 9223372036854775807) (_ : -9223372036854775808 ≤ o2) (_ : o2 ≤ 9223372036854775807) (_ : -9223372036854775808 ≤ f2) (_ : f2 ≤ 9223372036854775807) (_ : -9223372036854775808 ≤ g2) (_ : g2 ≤ 9223372036854775807) (_ : -9223372036854775808 ≤ u2) (_ : u2 ≤ 9223372036854775807) (_ : -9223372036854775808 ≤ i2) (_ : i2 ≤ 9223372036854775807) (_ : -9223372036854775808 ≤ p2) (_ : p2 ≤ 9223372036854775807) (_ : -9223372036854775808 ≤ q2) (_ : q2 ≤ 9223372036854775807) (_ : -9223372036854775808 ≤ r2) (_ : r2 ≤ 9223372036854775807) (_ : -9223372036854775808 ≤ x) (_ : x ≤ 9223372036854775807) (_ : -9223372036854775808 ≤ y) (_ : y ≤ 9223372036854775807) (_ : -9223372036854775808 ≤ z) (_ : z ≤ 9223372036854775807) (w : World) :
    Calls Try.prog 8 #[.agg #[.int .i64 a, .int .i64 b, .int .i64 c, .int .i64 d, .int .i64 o, .int .i64 f, .int .i64 g, .int .i64 u, .int .i64 i, .int .i64 p, .int .i64 q, .int .i64 r], .agg #[.int .i64 a2, .int .i64 b2, .int .i64 c2, .int .i64 d2, .int .i64 o2, .int .i64 f2, .int .i64 g2, .int .i64 u2, .int .i64 i2, .int .i64 p2, .int .i64 q2, .int .i64 r2], .agg #[.int .i64 x, .int .i64 y, .int .i64 z]] w fun e w' => e = .returned (.bool true) ∧ Below w.heap.size w w' := by
  rcases part (mul ⟨⟨⟨cl a * 256, cl b * 256, cl c * 256⟩, ⟨cl d * 256, cl o * 256, cl f * 256⟩, ⟨cl g * 256, cl u * 256, cl i * 256⟩⟩, ⟨p, q, r⟩⟩ ⟨⟨⟨cl a2 * 256, cl b2 * 256, cl c2 * 256⟩, ⟨cl d2 * 256, cl o2 * 256, cl f2 * 256⟩, ⟨cl g2 * 256, cl u2 * 256, cl i2 * 256⟩⟩, ⟨p2, q2, r2⟩⟩).2 with h1 | h1
  · rcases part (image ⟨⟨⟨cl a2 * 256, cl b2 * 256, cl c2 * 256⟩, ⟨cl d2 * 256, cl o2 * 256, cl f2 * 256⟩, ⟨cl g2 * 256, cl u2 * 256, cl i2 * 256⟩⟩, ⟨p2, q2, r2⟩⟩ ⟨x, y, z⟩).2 with h2 | h2
    · have h3 : image ⟨⟨⟨cl a * 256, cl b * 256, cl c * 256⟩, ⟨cl d * 256, cl o * 256, cl f * 256⟩, ⟨cl g * 256, cl u * 256, cl i * 256⟩⟩, ⟨p, q, r⟩⟩ ⟨(image ⟨⟨⟨cl a2 * 256, cl b2 * 256, cl c2 * 256⟩, ⟨cl d2 * 256, cl o2 * 256, cl f2 * 256⟩, ⟨cl g2 * 256, cl u2 * 256, cl i2 * 256⟩⟩, ⟨p2, q2, r2⟩⟩ ⟨x, y, z⟩).1.x, (image ⟨⟨⟨cl a2 * 256, cl b2 * 256, cl c2 * 256⟩, ⟨cl d2 * 256, cl o2 * 256, cl f2 * 256⟩, ⟨cl g2 * 256, cl u2 * 256, cl i2 * 256⟩⟩, ⟨p2, q2, r2⟩⟩ ⟨x, y, z⟩).1.y, (image ⟨⟨⟨cl a2 * 256, cl b2 * 256, cl c2 * 256⟩, ⟨cl d2 * 256, cl o2 * 256, cl f2 * 256⟩, ⟨cl g2 * 256, cl u2 * 256, cl i2 * 256⟩⟩, ⟨p2, q2, r2⟩⟩ ⟨x, y, z⟩).1.z⟩ = image ⟨⟨⟨(mul ⟨⟨⟨cl a * 256, cl b * 256, cl c * 256⟩, ⟨cl d * 256, cl o * 256, cl f * 256⟩, ⟨cl g * 256, cl u * 256, cl i * 256⟩⟩, ⟨p, q, r⟩⟩ ⟨⟨⟨cl a2 * 256, cl b2 * 256, cl c2 * 256⟩, ⟨cl d2 * 256, cl o2 * 256, cl f2 * 256⟩, ⟨cl g2 * 256, cl u2 * 256, cl i2 * 256⟩⟩, ⟨p2, q2, r2⟩⟩).1.m.a.x, (mul ⟨⟨⟨cl a * 256, cl b * 256, cl c * 256⟩, ⟨cl d * 256, cl o * 256, cl f * 256⟩, ⟨cl g * 256, cl u * 256, cl i * 256⟩⟩, ⟨p, q, r⟩⟩ ⟨⟨⟨cl a2 * 256, cl b2 * 256, cl c2 * 256⟩, ⟨cl d2 * 256, cl o2 * 256, cl f2 * 256⟩, ⟨cl g2 * 256, cl u2 * 256, cl i2 * 256⟩⟩, ⟨p2, q2, r2⟩⟩).1.m.a.y, (mul ⟨⟨⟨cl a * 256, cl b * 256, cl c * 256⟩, ⟨cl d * 256, cl o * 256, cl f * 256⟩, ⟨cl g * 256, cl u * 256, cl i * 256⟩⟩, ⟨p, q, r⟩⟩ ⟨⟨⟨cl a2 * 256, cl b2 * 256, cl c2 * 256⟩, ⟨cl d2 * 256, cl o2 * 256, cl f2 * 256⟩, ⟨cl g2 * 256, cl u2 * 256, cl i2 * 256⟩⟩, ⟨p2, q2, r2⟩⟩).1.m.a.z⟩, ⟨(mul ⟨⟨⟨cl a * 256, cl b * 256, cl c * 256⟩, ⟨cl d * 256, cl o * 256, cl f * 256⟩, ⟨cl g * 256, cl u * 256, cl i * 256⟩⟩, ⟨p, q, r⟩⟩ ⟨⟨⟨cl a2 * 256, cl b2 * 256, cl c2 * 256⟩, ⟨cl d2 * 256, cl o2 * 256, cl f2 * 256⟩, ⟨cl g2 * 256, cl u2 * 256, cl i2 * 256⟩⟩, ⟨p2, q2, r2⟩⟩).1.m.b.x, (mul ⟨⟨⟨cl a * 256, cl b * 256, cl c * 256⟩, ⟨cl d * 256, cl o * 256, cl f * 256⟩, ⟨cl g * 256, cl u * 256, cl i * 256⟩⟩, ⟨p, q, r⟩⟩ ⟨⟨⟨cl a2 * 256, cl b2 * 256, cl c2 * 256⟩, ⟨cl d2 * 256, cl o2 * 256, cl f2 * 256⟩, ⟨cl g2 * 256, cl u2 * 256, cl i2 * 256⟩⟩, ⟨p2, q2, r2⟩⟩).1.m.b.y, (mul ⟨⟨⟨cl a * 256, cl b * 256, cl c * 256⟩, ⟨cl d * 256, cl o * 256, cl f * 256⟩, ⟨cl g * 256, cl u * 256, cl i * 256⟩⟩, ⟨p, q, r⟩⟩ ⟨⟨⟨cl a2 * 256, cl b2 * 256, cl c2 * 256⟩, ⟨cl d2 * 256, cl o2 * 256, cl f2 * 256⟩, ⟨cl g2 * 256, cl u2 * 256, cl i2 * 256⟩⟩, ⟨p2, q2, r2⟩⟩).1.m.b.z⟩, ⟨(mul ⟨⟨⟨cl a * 256, cl b * 256, cl c * 256⟩, ⟨cl d * 256, cl o * 256, cl f * 256⟩, ⟨cl g * 256, cl u * 256, cl i * 256⟩⟩, ⟨p, q, r⟩⟩ ⟨⟨⟨cl a2 * 256, cl b2 * 256, cl c2 * 256⟩, ⟨cl d2 * 256, cl o2 * 256, cl f2 * 256⟩, ⟨cl g2 * 256, cl u2 * 256, cl i2 * 256⟩⟩, ⟨p2, q2, r2⟩⟩).1.m.c.x, (mul ⟨⟨⟨cl a * 256, cl b * 256, cl c * 256⟩, ⟨cl d * 256, cl o * 256, cl f * 256⟩, ⟨cl g * 256, cl u * 256, cl i * 256⟩⟩, ⟨p, q, r⟩⟩ ⟨⟨⟨cl a2 * 256, cl b2 * 256, cl c2 * 256⟩, ⟨cl d2 * 256, cl o2 * 256, cl f2 * 256⟩, ⟨cl g2 * 256, cl u2 * 256, cl i2 * 256⟩⟩, ⟨p2, q2, r2⟩⟩).1.m.c.y, (mul ⟨⟨⟨cl a * 256, cl b * 256, cl c * 256⟩, ⟨cl d * 256, cl o * 256, cl f * 256⟩, ⟨cl g * 256, cl u * 256, cl i * 256⟩⟩, ⟨p, q, r⟩⟩ ⟨⟨⟨cl a2 * 256, cl b2 * 256, cl c2 * 256⟩, ⟨cl d2 * 256, cl o2 * 256, cl f2 * 256⟩, ⟨cl g2 * 256, cl u2 * 256, cl i2 * 256⟩⟩, ⟨p2, q2, r2⟩⟩).1.m.c.z⟩⟩, ⟨(mul ⟨⟨⟨cl a * 256, cl b * 256, cl c * 256⟩, ⟨cl d * 256, cl o * 256, cl f * 256⟩, ⟨cl g * 256, cl u * 256, cl i * 256⟩⟩, ⟨p, q, r⟩⟩ ⟨⟨⟨cl a2 * 256, cl b2 * 256, cl c2 * 256⟩, ⟨cl d2 * 256, cl o2 * 256, cl f2 * 256⟩, ⟨cl g2 * 256, cl u2 * 256, cl i2 * 256⟩⟩, ⟨p2, q2, r2⟩⟩).1.t.x, (mul ⟨⟨⟨cl a * 256, cl b * 256, cl c * 256⟩, ⟨cl d * 256, cl o * 256, cl f * 256⟩, ⟨cl g * 256, cl u * 256, cl i * 256⟩⟩, ⟨p, q, r⟩⟩ ⟨⟨⟨cl a2 * 256, cl b2 * 256, cl c2 * 256⟩, ⟨cl d2 * 256, cl o2 * 256, cl f2 * 256⟩, ⟨cl g2 * 256, cl u2 * 256, cl i2 * 256⟩⟩, ⟨p2, q2, r2⟩⟩).1.t.y, (mul ⟨⟨⟨cl a * 256, cl b * 256, cl c * 256⟩, ⟨cl d * 256, cl o * 256, cl f * 256⟩, ⟨cl g * 256, cl u * 256, cl i * 256⟩⟩, ⟨p, q, r⟩⟩ ⟨⟨⟨cl a2 * 256, cl b2 * 256, cl c2 * 256⟩, ⟨cl d2 * 256, cl o2 * 256, cl f2 * 256⟩, ⟨cl g2 * 256, cl u2 * 256, cl i2 * 256⟩⟩, ⟨p2, q2, r2⟩⟩).1.t.z⟩⟩ ⟨x, y, z⟩ := twice (twice_moved _ _ _ _ _ _ _ _ _ _ _ _ _ _ _ _ _ _ _ _ _ _ _ _ _ _ _) h1 h2
      go_enter Try.func8, Try.ntmps8
      go_wp2_with (first | (go_at_call 14; refine (plus_post (alive_calls _)).mono ?_; rintro e w' ⟨rfl, nx, rfl⟩) | (go_at_call 11; refine (plus_post (mul_calls _ _ _ _ _ _ _ _ _ _ _ _ _ _ _ _ _ _ _ _ _ _ _ _ _ )).mono ?_; rintro e w' ⟨rfl, nx, rfl⟩) | (go_at_call 13; refine (plus_post (image_calls _ _ _ _ _ _ _ _ _ _ _ _ _ _ _ _)).mono ?_; rintro e w' ⟨rfl, nx, rfl⟩))
      refine region_tail 4 (by kernel_rfl) (by kernel_rfl) ?_
      simp only [List.take_succ_cons, List.take_zero, List.drop_succ_cons, List.drop_zero]
      (repeat (go_big_quiet_step ((go_at_call 25; exact plus_of (times_calls _ _ _ _ _ _ _ _ _ _ _ _ _)))))
      refine wpQuiet_nil ?_
      rintro _ ⟨x2, rfl⟩
      go_wp2_with (first | (go_at_call 14; refine (plus_post (alive_calls _)).mono ?_; rintro e w' ⟨rfl, nx, rfl⟩) | (go_at_call 11; refine (plus_post (mul_calls _ _ _ _ _ _ _ _ _ _ _ _ _ _ _ _ _ _ _ _ _ _ _ _ _ )).mono ?_; rintro e w' ⟨rfl, nx, rfl⟩) | (go_at_call 13; refine (plus_post (image_calls _ _ _ _ _ _ _ _ _ _ _ _ _ _ _ _)).mono ?_; rintro e w' ⟨rfl, nx, rfl⟩))
      go_ret
      exact ⟨rfl, by with_reducible repeat (first | exact Below.refl _ _ | apply ba | apply bp | apply bd | apply bn)⟩
    · have h3 : ((image ⟨⟨⟨cl a2 * 256, cl b2 * 256, cl c2 * 256⟩, ⟨cl d2 * 256, cl o2 * 256, cl f2 * 256⟩, ⟨cl g2 * 256, cl u2 * 256, cl i2 * 256⟩⟩, ⟨p2, q2, r2⟩⟩ ⟨x, y, z⟩).2 != 0) = true := by simp [bne, h2]
      go_enter Try.func8, Try.ntmps8
      go_wp2_with (first | (go_at_call 14; refine (plus_post (alive_calls _)).mono ?_; rintro e w' ⟨rfl, nx, rfl⟩) | (go_at_call 11; refine (plus_post (mul_calls _ _ _ _ _ _ _ _ _ _ _ _ _ _ _ _ _ _ _ _ _ _ _ _ _ )).mono ?_; rintro e w' ⟨rfl, nx, rfl⟩) | (go_at_call 13; refine (plus_post (image_calls _ _ _ _ _ _ _ _ _ _ _ _ _ _ _ _)).mono ?_; rintro e w' ⟨rfl, nx, rfl⟩))
      refine region_tail 4 (by kernel_rfl) (by kernel_rfl) ?_
      simp only [List.take_succ_cons, List.take_zero, List.drop_succ_cons, List.drop_zero]
      (repeat (go_big_quiet_step ((go_at_call 25; exact plus_of (times_calls _ _ _ _ _ _ _ _ _ _ _ _ _)))))
      refine wpQuiet_nil ?_
      rintro _ ⟨x2, rfl⟩
      go_wp2_with (first | (go_at_call 14; refine (plus_post (alive_calls _)).mono ?_; rintro e w' ⟨rfl, nx, rfl⟩) | (go_at_call 11; refine (plus_post (mul_calls _ _ _ _ _ _ _ _ _ _ _ _ _ _ _ _ _ _ _ _ _ _ _ _ _ )).mono ?_; rintro e w' ⟨rfl, nx, rfl⟩) | (go_at_call 13; refine (plus_post (image_calls _ _ _ _ _ _ _ _ _ _ _ _ _ _ _ _)).mono ?_; rintro e w' ⟨rfl, nx, rfl⟩))
      go_ret
      exact ⟨rfl, by with_reducible repeat (first | exact Below.refl _ _ | apply ba | apply bp | apply bd | apply bn)⟩
  · have h3 : ((mul ⟨⟨⟨cl a * 256, cl b * 256, cl c * 256⟩, ⟨cl d * 256, cl o * 256, cl f * 256⟩, ⟨cl g * 256, cl u * 256, cl i * 256⟩⟩, ⟨p, q, r⟩⟩ ⟨⟨⟨cl a2 * 256, cl b2 * 256, cl c2 * 256⟩, ⟨cl d2 * 256, cl o2 * 256, cl f2 * 256⟩, ⟨cl g2 * 256, cl u2 * 256, cl i2 * 256⟩⟩, ⟨p2, q2, r2⟩⟩).2 != 0) = true := by simp [bne, h1]
    go_enter Try.func8, Try.ntmps8
    go_wp2_with (first | (go_at_call 14; refine (plus_post (alive_calls _)).mono ?_; rintro e w' ⟨rfl, nx, rfl⟩) | (go_at_call 11; refine (plus_post (mul_calls _ _ _ _ _ _ _ _ _ _ _ _ _ _ _ _ _ _ _ _ _ _ _ _ _ )).mono ?_; rintro e w' ⟨rfl, nx, rfl⟩) | (go_at_call 13; refine (plus_post (image_calls _ _ _ _ _ _ _ _ _ _ _ _ _ _ _ _)).mono ?_; rintro e w' ⟨rfl, nx, rfl⟩))
    refine region_tail 4 (by kernel_rfl) (by kernel_rfl) ?_
    simp only [List.take_succ_cons, List.take_zero, List.drop_succ_cons, List.drop_zero]
    (repeat (go_big_quiet_step ((go_at_call 25; exact plus_of (times_calls _ _ _ _ _ _ _ _ _ _ _ _ _)))))
    refine wpQuiet_nil ?_
    rintro _ ⟨x2, rfl⟩
    go_wp2_with (first | (go_at_call 14; refine (plus_post (alive_calls _)).mono ?_; rintro e w' ⟨rfl, nx, rfl⟩) | (go_at_call 11; refine (plus_post (mul_calls _ _ _ _ _ _ _ _ _ _ _ _ _ _ _ _ _ _ _ _ _ _ _ _ _ )).mono ?_; rintro e w' ⟨rfl, nx, rfl⟩) | (go_at_call 13; refine (plus_post (image_calls _ _ _ _ _ _ _ _ _ _ _ _ _ _ _ _)).mono ?_; rintro e w' ⟨rfl, nx, rfl⟩))
    go_ret
    exact ⟨rfl, by with_reducible repeat (first | exact Below.refl _ _ | apply ba | apply bp | apply bd | apply bn)⟩

set_option maxRecDepth 100000 in
theorem vecTwice_lifted (os : Os) (started : os.Started) (H : Type) (enc : TypeId × Value → H) :
    ReturnsInHanded {} Try.checked os 8 .any (Rows.vecTwiceSpec.pre6 enc Try.prog Try.f8 Rows.vecTwiceRow.domain false) (Rows.vecTwiceSpec.post enc Try.prog Try.f8 false true false false) := by
  refine returnsInHanded_of_change (C := Try.checked) own started (by kernel_rfl) Try.func8
    (ChangeSpec.witness6 (enc := enc) (C := Try.checked) false ⟨#[], #[.agg #[.int .i64 0, .int .i64 0, .int .i64 0, .int .i64 0, .int .i64 0, .int .i64 0, .int .i64 0, .int .i64 0, .int .i64 0, .int .i64 0, .int .i64 0, .int .i64 0], .agg #[.int .i64 0, .int .i64 0, .int .i64 0, .int .i64 0, .int .i64 0, .int .i64 0, .int .i64 0, .int .i64 0, .int .i64 0, .int .i64 0, .int .i64 0, .int .i64 0], .agg #[.int .i64 0, .int .i64 0, .int .i64 0]], []⟩ 8 (by kernel_rfl) (by kernel_rfl) (by kernel_rfl) (by kernel_rfl)) ?_
  intro W base args ds gs before hval0 hW hcnd _
  have hval : ∀ (j : Nat) t v, Try.f8.params[j]? = some t → args[j]? = some v → Value.okWide Try.prog W .any base t v := hval0
  have hW' := hW
  obtain ⟨p, q, hA0, hV, rfl, hfz, hnd⟩ := hW
  have hA : DataW.TrodAll enc Try.prog W 0 (fun _ => true) true Try.f8.params.toList args.toList ds p := hA0
  rw [Try.params8] at hA hval
  obtain ⟨v0, vs0, d0, ds0, p0, q0, hargs, rfl, rfl, h0, r0⟩ := trodAll_cons hA
  obtain ⟨v1, vs1, d1, ds1, p1, q1, rfl, rfl, rfl, h1, r1⟩ := trodAll_cons r0
  obtain ⟨v2, vs2, d2, ds2, p2, q2, rfl, rfl, rfl, h2, r2⟩ := trodAll_cons r1
  obtain ⟨rfl, rfl, rfl⟩ := trodAll_nil r2
  obtain rfl : args = #[v0, v1, v2] := by cases args; simp_all
  obtain ⟨a0_0, a0_1, a0_2, a0_3, a0_4, a0_5, a0_6, a0_7, a0_8, a0_9, a0_10, a0_11, rfl, ca0_0, ca0_1, ca0_2, ca0_3, ca0_4, ca0_5, ca0_6, ca0_7, ca0_8, ca0_9, ca0_10, ca0_11⟩ := open_flat12 (k := 4) (t := 31) (by kernel_rfl) (by kernel_rfl) (by kernel_rfl) (hval 0 31 v0 rfl rfl) h0
  obtain ⟨a1_0, a1_1, a1_2, a1_3, a1_4, a1_5, a1_6, a1_7, a1_8, a1_9, a1_10, a1_11, rfl, ca1_0, ca1_1, ca1_2, ca1_3, ca1_4, ca1_5, ca1_6, ca1_7, ca1_8, ca1_9, ca1_10, ca1_11⟩ := open_flat12 (k := 4) (t := 31) (by kernel_rfl) (by kernel_rfl) (by kernel_rfl) (hval 1 31 v1 rfl rfl) h1
  obtain ⟨a2_0, a2_1, a2_2, rfl, ca2_0, ca2_1, ca2_2⟩ := open_flat3 (k := 4) (t := 23) (by kernel_rfl) (by kernel_rfl) (by kernel_rfl) (hval 2 23 v2 rfl rfl) h2
  refine (vecTwice_walk a0_0 a0_1 a0_2 a0_3 a0_4 a0_5 a0_6 a0_7 a0_8 a0_9 a0_10 a0_11 a1_0 a1_1 a1_2 a1_3 a1_4 a1_5 a1_6 a1_7 a1_8 a1_9 a1_10 a1_11 a2_0 a2_1 a2_2 ca0_0.1 ca0_0.2 ca0_1.1 ca0_1.2 ca0_2.1 ca0_2.2 ca0_3.1 ca0_3.2 ca0_4.1 ca0_4.2 ca0_5.1 ca0_5.2 ca0_6.1 ca0_6.2 ca0_7.1 ca0_7.2 ca0_8.1 ca0_8.2 ca0_9.1 ca0_9.2 ca0_10.1 ca0_10.2 ca0_11.1 ca0_11.2 ca1_0.1 ca1_0.2 ca1_1.1 ca1_1.2 ca1_2.1 ca1_2.2 ca1_3.1 ca1_3.2 ca1_4.1 ca1_4.2 ca1_5.1 ca1_5.2 ca1_6.1 ca1_6.2 ca1_7.1 ca1_7.2 ca1_8.1 ca1_8.2 ca1_9.1 ca1_9.2 ca1_10.1 ca1_10.2 ca1_11.1 ca1_11.2 ca2_0.1 ca2_0.2 ca2_1.1 ca2_1.2 ca2_2.1 ca2_2.2 W).mono fun e W' ⟨he, hb⟩ => ?_
  exact ⟨_, he, law_post laidOut Try.underlying4 rfl (by kernel_rfl) (by kernel_rfl) (fun ds h => match ds, h with | [_, _, _], _ => rfl) hW' hb⟩

theorem vecTwice_holds : Rows.VecTwiceSaid :=
  OpenClaim.holds_of_wide 8 Try.f8 rfl rfl rfl rfl rfl rfl rfl ⟨rfl, rfl, rfl, rfl, rfl⟩ rfl rfl rfl rfl rfl (by kernel_rfl) Try.func8 (by kernel_rfl)
    (of_decide_eq_true (by kernel_rfl)) (by unfold Func.isWrapper; first | (rw [if_pos (by decide +kernel)]; kernel_rfl) | (rw [if_neg (by decide +kernel)]; exact ⟨rfl, rfl⟩))
    (fun os started H enc _ => vecTwice_lifted os started H enc)
#print axioms vecTwice_holds
end Go.Proofs.Ytokammhfkmgjeaa
