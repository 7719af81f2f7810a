/- What box.Check, Holds and Inside give; choose, widen and corner. -/
import Derived.Test.YtondjoilcpcneaaBox1
namespace Go.Proofs.Ytondjoilcpcneaa
open Go.RowKit Go.ChangeShapes Go.WideShapes Go.ChangeAt
set_option linter.unusedSimpArgs false
set_option linter.unusedVariables false
attribute [local go_sem] plus_size plus_drew dn_set dn_alloc dn_plus plus_dn cell_plus frozen_plus set_plus cell_alloc frozen_alloc set_alloc

theorem may_sides (a b c d o f : Int) : mayBx ⟨⟨a, b, c⟩, ⟨d, o, f⟩⟩ = (sideB a d && sideB b o && sideB c f) := by
  rw [Bool.eq_iff_iff]
  simp [mayBx, all3, within, vle, sideB]
  omega
theorem holds_sides (a b c d o f x y z : Int) : holdsBx ⟨⟨a, b, c⟩, ⟨d, o, f⟩⟩ ⟨x, y, z⟩ = (inB a d x && inB b o y && inB c f z) := by
  rw [Bool.eq_iff_iff]
  simp [holdsBx, vle, inB]
  omega
theorem inside_sides (a b c d o f a2 b2 c2 d2 o2 f2 : Int) : insideBx ⟨⟨a, b, c⟩, ⟨d, o, f⟩⟩ ⟨⟨a2, b2, c2⟩, ⟨d2, o2, f2⟩⟩ = (decide (a2 ≤ a ∧ d ≤ d2) && decide (b2 ≤ b ∧ o ≤ o2) && decide (c2 ≤ c ∧ f ≤ f2)) := by
  rw [Bool.eq_iff_iff]
  simp [insideBx, vle]
  omega
/-- the error of Check -/
def chkBx (b : B6) : Int := if mayBx b = true then 0 else 8

theorem bcheck_calls (a b c d o f : Int) (w : World) :
    Calls Try.prog 15 #[.agg #[.int .i64 a, .int .i64 b, .int .i64 c, .int .i64 d, .int .i64 o, .int .i64 f]] w fun e w' => e = .returned (.int .i64 (chkBx ⟨⟨a, b, c⟩, ⟨d, o, f⟩⟩)) ∧ Below w.heap.size w w' := by
  cases s1 : sideB a d
  · rw [show chkBx ⟨⟨a, b, c⟩, ⟨d, o, f⟩⟩ = 8 by simp [chkBx, may_sides, s1]]
    go_enter Try.func15, Try.ntmps15
    go_wp2_with (go_at_call 31; refine (plus_post (sideMay_calls _ _ _ _ _ _ _ (by simp [go_sem, ↓IntWalk.iteOmega]; rfl) (by simp [go_sem, ↓IntWalk.iteOmega]; rfl))).mono ?_; rintro e w' ⟨rfl, nx, rfl⟩)
    go_ret
    exact ⟨rfl, by with_reducible repeat (first | exact Below.refl _ _ | apply ba | apply bp | apply bd | apply bn)⟩
  cases s2 : sideB b o
  · rw [show chkBx ⟨⟨a, b, c⟩, ⟨d, o, f⟩⟩ = 8 by simp [chkBx, may_sides, s1, s2]]
    go_enter Try.func15, Try.ntmps15
    go_wp2_with (go_at_call 31; refine (plus_post (sideMay_calls _ _ _ _ _ _ _ (by simp [go_sem, ↓IntWalk.iteOmega]; rfl) (by simp [go_sem, ↓IntWalk.iteOmega]; rfl))).mono ?_; rintro e w' ⟨rfl, nx, rfl⟩)
    go_ret
    exact ⟨rfl, by with_reducible repeat (first | exact Below.refl _ _ | apply ba | apply bp | apply bd | apply bn)⟩
  cases s3 : sideB c f
  · rw [show chkBx ⟨⟨a, b, c⟩, ⟨d, o, f⟩⟩ = 8 by simp [chkBx, may_sides, s1, s2, s3]]
    go_enter Try.func15, Try.ntmps15
    go_wp2_with (go_at_call 31; refine (plus_post (sideMay_calls _ _ _ _ _ _ _ (by simp [go_sem, ↓IntWalk.iteOmega]; rfl) (by simp [go_sem, ↓IntWalk.iteOmega]; rfl))).mono ?_; rintro e w' ⟨rfl, nx, rfl⟩)
    go_ret
    exact ⟨rfl, by with_reducible repeat (first | exact Below.refl _ _ | apply ba | apply bp | apply bd | apply bn)⟩
  rw [show chkBx ⟨⟨a, b, c⟩, ⟨d, o, f⟩⟩ = 0 by simp [chkBx, may_sides, s1, s2, s3]]
  go_enter Try.func15, Try.ntmps15
  go_wp2_with (go_at_call 31; refine (plus_post (sideMay_calls _ _ _ _ _ _ _ (by simp [go_sem, ↓IntWalk.iteOmega]; rfl) (by simp [go_sem, ↓IntWalk.iteOmega]; rfl))).mono ?_; rintro e w' ⟨rfl, nx, rfl⟩)
  go_ret
  exact ⟨rfl, by with_reducible repeat (first | exact Below.refl _ _ | apply ba | apply bp | apply bd | apply bn)⟩

theorem bholds_calls (a b c d o f x y z : Int) (w : World) :
    Calls Try.prog 16 #[.agg #[.int .i64 a, .int .i64 b, .int .i64 c, .int .i64 d, .int .i64 o, .int .i64 f], .agg #[.int .i64 x, .int .i64 y, .int .i64 z]] w fun e w' => e = .returned (.bool (holdsBx ⟨⟨a, b, c⟩, ⟨d, o, f⟩⟩ ⟨x, y, z⟩)) ∧ Below w.heap.size w w' := by
  cases s1 : inB a d x
  · rw [show holdsBx ⟨⟨a, b, c⟩, ⟨d, o, f⟩⟩ ⟨x, y, z⟩ = false by simp [holds_sides, s1]]
    go_enter Try.func16, Try.ntmps16
    go_wp2_with (go_at_call 32; refine (plus_post (sideHolds_calls _ _ _ _ _ _ _ _ (by simp [go_sem, ↓IntWalk.iteOmega]; rfl) (by simp [go_sem, ↓IntWalk.iteOmega]; rfl) (by simp [go_sem]; try omega) (by simp [go_sem]; try omega))).mono ?_; rintro e w' ⟨rfl, nx, rfl⟩)
    go_ret
    exact ⟨rfl, by with_reducible repeat (first | exact Below.refl _ _ | apply ba | apply bp | apply bd | apply bn)⟩
  cases s2 : inB b o y
  · rw [show holdsBx ⟨⟨a, b, c⟩, ⟨d, o, f⟩⟩ ⟨x, y, z⟩ = false by simp [holds_sides, s1, s2]]
    go_enter Try.func16, Try.ntmps16
    go_wp2_with (go_at_call 32; refine (plus_post (sideHolds_calls _ _ _ _ _ _ _ _ (by simp [go_sem, ↓IntWalk.iteOmega]; rfl) (by simp [go_sem, ↓IntWalk.iteOmega]; rfl) (by simp [go_sem]; try omega) (by simp [go_sem]; try omega))).mono ?_; rintro e w' ⟨rfl, nx, rfl⟩)
    go_ret
    exact ⟨rfl, by with_reducible repeat (first | exact Below.refl _ _ | apply ba | apply bp | apply bd | apply bn)⟩
  cases s3 : inB c f z
  · rw [show holdsBx ⟨⟨a, b, c⟩, ⟨d, o, f⟩⟩ ⟨x, y, z⟩ = false by simp [holds_sides, s1, s2, s3]]
    go_enter Try.func16, Try.ntmps16
    go_wp2_with (go_at_call 32; refine (plus_post (sideHolds_calls _ _ _ _ _ _ _ _ (by simp [go_sem, ↓IntWalk.iteOmega]; rfl) (by simp [go_sem, ↓IntWalk.iteOmega]; rfl) (by simp [go_sem]; try omega) (by simp [go_sem]; try omega))).mono ?_; rintro e w' ⟨rfl, nx, rfl⟩)
    go_ret
    exact ⟨rfl, by with_reducible repeat (first | exact Below.refl _ _ | apply ba | apply bp | apply bd | apply bn)⟩
  rw [show holdsBx ⟨⟨a, b, c⟩, ⟨d, o, f⟩⟩ ⟨x, y, z⟩ = true by simp [holds_sides, s1, s2, s3]]
  go_enter Try.func16, Try.ntmps16
  go_wp2_with (go_at_call 32; refine (plus_post (sideHolds_calls _ _ _ _ _ _ _ _ (by simp [go_sem, ↓IntWalk.iteOmega]; rfl) (by simp [go_sem, ↓IntWalk.iteOmega]; rfl) (by simp [go_sem]; try omega) (by simp [go_sem]; try omega))).mono ?_; rintro e w' ⟨rfl, nx, rfl⟩)
  go_ret
  exact ⟨rfl, by with_reducible repeat (first | exact Below.refl _ _ | apply ba | apply bp | apply bd | apply bn)⟩

theorem binside_calls (a b c d o f a2 b2 c2 d2 o2 f2 : Int) (w : World) :
    Calls Try.prog 20 #[.agg #[.int .i64 a, .int .i64 b, .int .i64 c, .int .i64 d, .int .i64 o, .int .i64 f], .agg #[.int .i64 a2, .int .i64 b2, .int .i64 c2, .int .i64 d2, .int .i64 o2, .int .i64 f2]] w fun e w' => e = .returned (.bool (insideBx ⟨⟨a, b, c⟩, ⟨d, o, f⟩⟩ ⟨⟨a2, b2, c2⟩, ⟨d2, o2, f2⟩⟩)) ∧ Below w.heap.size w w' := by
  cases s1 : decide (a2 ≤ a ∧ d ≤ d2)
  · rw [show insideBx ⟨⟨a, b, c⟩, ⟨d, o, f⟩⟩ ⟨⟨a2, b2, c2⟩, ⟨d2, o2, f2⟩⟩ = false by simp [inside_sides, s1]]
    go_enter Try.func20, Try.ntmps20
    go_wp2_with (first | (go_at_call 29; refine (plus_post (side_calls _ _ _ _ _ _ _ (by simp [go_sem, ↓IntWalk.iteOmega]; rfl) (by simp [go_sem, ↓IntWalk.iteOmega]; rfl) (by simp [go_sem]; try omega) (by simp [go_sem]; try omega))).mono ?_; rintro e w' ⟨rfl, nx, rfl⟩) | (go_at_call 35; refine (plus_post (sideInside_calls _ _ _ _ _ _ _ _ _ (by simp [go_sem, ↓IntWalk.iteOmega]; rfl) (by simp [go_sem, ↓IntWalk.iteOmega]; rfl) (by simp [go_sem]; try omega) (by simp [go_sem]; try omega))).mono ?_; rintro e w' ⟨rfl, nx, rfl⟩))
    go_ret
    exact ⟨rfl, by with_reducible repeat (first | exact Below.refl _ _ | apply ba | apply bp | apply bd | apply bn)⟩
  cases s2 : decide (b2 ≤ b ∧ o ≤ o2)
  · rw [show insideBx ⟨⟨a, b, c⟩, ⟨d, o, f⟩⟩ ⟨⟨a2, b2, c2⟩, ⟨d2, o2, f2⟩⟩ = false by simp [inside_sides, s1, s2]]
    go_enter Try.func20, Try.ntmps20
    go_wp2_with (first | (go_at_call 29; refine (plus_post (side_calls _ _ _ _ _ _ _ (by simp [go_sem, ↓IntWalk.iteOmega]; rfl) (by simp [go_sem, ↓IntWalk.iteOmega]; rfl) (by simp [go_sem]; try omega) (by simp [go_sem]; try omega))).mono ?_; rintro e w' ⟨rfl, nx, rfl⟩) | (go_at_call 35; refine (plus_post (sideInside_calls _ _ _ _ _ _ _ _ _ (by simp [go_sem, ↓IntWalk.iteOmega]; rfl) (by simp [go_sem, ↓IntWalk.iteOmega]; rfl) (by simp [go_sem]; try omega) (by simp [go_sem]; try omega))).mono ?_; rintro e w' ⟨rfl, nx, rfl⟩))
    go_ret
    exact ⟨rfl, by with_reducible repeat (first | exact Below.refl _ _ | apply ba | apply bp | apply bd | apply bn)⟩
  cases s3 : decide (c2 ≤ c ∧ f ≤ f2)
  · rw [show insideBx ⟨⟨a, b, c⟩, ⟨d, o, f⟩⟩ ⟨⟨a2, b2, c2⟩, ⟨d2, o2, f2⟩⟩ = false by simp [inside_sides, s1, s2, s3]]
    go_enter Try.func20, Try.ntmps20
    go_wp2_with (first | (go_at_call 29; refine (plus_post (side_calls _ _ _ _ _ _ _ (by simp [go_sem, ↓IntWalk.iteOmega]; rfl) (by simp [go_sem, ↓IntWalk.iteOmega]; rfl) (by simp [go_sem]; try omega) (by simp [go_sem]; try omega))).mono ?_; rintro e w' ⟨rfl, nx, rfl⟩) | (go_at_call 35; refine (plus_post (sideInside_calls _ _ _ _ _ _ _ _ _ (by simp [go_sem, ↓IntWalk.iteOmega]; rfl) (by simp [go_sem, ↓IntWalk.iteOmega]; rfl) (by simp [go_sem]; try omega) (by simp [go_sem]; try omega))).mono ?_; rintro e w' ⟨rfl, nx, rfl⟩))
    go_ret
    exact ⟨rfl, by with_reducible repeat (first | exact Below.refl _ _ | apply ba | apply bp | apply bd | apply bn)⟩
  rw [show insideBx ⟨⟨a, b, c⟩, ⟨d, o, f⟩⟩ ⟨⟨a2, b2, c2⟩, ⟨d2, o2, f2⟩⟩ = true by simp [inside_sides, s1, s2, s3]]
  go_enter Try.func20, Try.ntmps20
  go_wp2_with (first | (go_at_call 29; refine (plus_post (side_calls _ _ _ _ _ _ _ (by simp [go_sem, ↓IntWalk.iteOmega]; rfl) (by simp [go_sem, ↓IntWalk.iteOmega]; rfl) (by simp [go_sem]; try omega) (by simp [go_sem]; try omega))).mono ?_; rintro e w' ⟨rfl, nx, rfl⟩) | (go_at_call 35; refine (plus_post (sideInside_calls _ _ _ _ _ _ _ _ _ (by simp [go_sem, ↓IntWalk.iteOmega]; rfl) (by simp [go_sem, ↓IntWalk.iteOmega]; rfl) (by simp [go_sem]; try omega) (by simp [go_sem]; try omega))).mono ?_; rintro e w' ⟨rfl, nx, rfl⟩))
  go_ret
  exact ⟨rfl, by with_reducible repeat (first | exact Below.refl _ _ | apply ba | apply bp | apply bd | apply bn)⟩

end Go.Proofs.Ytondjoilcpcneaa
