/- What the document's own functions for layer 3 give (dioramaref03): Low, High, May, Least, Of, Join. -/
import Derived.Test.YtondjoilcpcneaaBoxL2
import Derived.Test.YtondjoilcpcneaaVec6
namespace Go.Proofs.Ytondjoilcpcneaa
open Go.RowKit Go.ChangeShapes Go.WideShapes Go.ChangeAt
set_option linter.unusedSimpArgs false
set_option linter.unusedVariables false
attribute [local go_sem] plus_size plus_drew dn_set dn_alloc dn_plus plus_dn cell_plus frozen_plus set_plus cell_alloc frozen_alloc set_alloc

theorem minE (a b : Int) : (if b < a then b else a) = min a b := by
  split <;> omega
theorem maxE (a b : Int) : (if a < b then b else a) = max a b := by
  split <;> omega
section
attribute [local go_sem] minE maxE
theorem rlow_calls (a b c x y z : Int) (w : World) :
    Calls Try.prog 21 #[.agg #[.int .i64 a, .int .i64 b, .int .i64 c], .agg #[.int .i64 x, .int .i64 y, .int .i64 z]] w fun e w' => e = .returned (.agg #[.int .i64 (min a x), .int .i64 (min b y), .int .i64 (min c z)]) ∧ Below w.heap.size w w' := by
  go_enter Try.func21, Try.ntmps21
  go_wp2
  exact bodyPost_ret (v := .agg #[.int .i64 (min a x), .int .i64 (min b y), .int .i64 (min c z)]) (by simp [results, Try.results21, go_sem, ↓IntWalk.iteOmega]) rfl ⟨rfl, by with_reducible repeat (first | exact Below.refl _ _ | apply ba | apply bp | apply bd | apply bn)⟩
theorem rhigh_calls (a b c x y z : Int) (w : World) :
    Calls Try.prog 22 #[.agg #[.int .i64 a, .int .i64 b, .int .i64 c], .agg #[.int .i64 x, .int .i64 y, .int .i64 z]] w fun e w' => e = .returned (.agg #[.int .i64 (max a x), .int .i64 (max b y), .int .i64 (max c z)]) ∧ Below w.heap.size w w' := by
  go_enter Try.func22, Try.ntmps22
  go_wp2
  exact bodyPost_ret (v := .agg #[.int .i64 (max a x), .int .i64 (max b y), .int .i64 (max c z)]) (by simp [results, Try.results22, go_sem, ↓IntWalk.iteOmega]) rfl ⟨rfl, by with_reducible repeat (first | exact Below.refl _ _ | apply ba | apply bp | apply bd | apply bn)⟩
end

theorem rbmay_calls (a b c d o f : Int) (w : World) :
    Calls Try.prog 19 #[.agg #[.int .i64 a, .int .i64 b, .int .i64 c, .int .i64 d, .int .i64 o, .int .i64 f]] w fun e w' => e = .returned (.bool (mayBx ⟨⟨a, b, c⟩, ⟨d, o, f⟩⟩)) ∧ Below w.heap.size w w' := by
  cases s1 : all3 ⟨a, b, c⟩ 32768
  · rw [show mayBx ⟨⟨a, b, c⟩, ⟨d, o, f⟩⟩ = false by simp [mayBx, s1]]
    go_enter Try.func19, Try.ntmps19
    go_wp2_with (go_at_call 33; refine (plus_post (rall_calls _ _ _ _ (by omega) (by omega) _)).mono ?_; rintro e w' ⟨rfl, nx, rfl⟩)
    go_ret
    exact ⟨rfl, by with_reducible repeat (first | exact Below.refl _ _ | apply ba | apply bp | apply bd | apply bn)⟩
  cases s2 : all3 ⟨d, o, f⟩ 32768
  · rw [show mayBx ⟨⟨a, b, c⟩, ⟨d, o, f⟩⟩ = false by simp [mayBx, s2]]
    go_enter Try.func19, Try.ntmps19
    go_wp2_with (go_at_call 33; refine (plus_post (rall_calls _ _ _ _ (by omega) (by omega) _)).mono ?_; rintro e w' ⟨rfl, nx, rfl⟩)
    go_ret
    exact ⟨rfl, by with_reducible repeat (first | exact Below.refl _ _ | apply ba | apply bp | apply bd | apply bn)⟩
  by_cases t0 : a ≤ d
  rotate_left
  · rw [show mayBx ⟨⟨a, b, c⟩, ⟨d, o, f⟩⟩ = false by simp [mayBx, vle, t0]]
    have d0 : decide (a ≤ d) = false := decide_eq_false t0
    go_enter Try.func19, Try.ntmps19
    go_wp2_with (go_at_call 33; refine (plus_post (rall_calls _ _ _ _ (by omega) (by omega) _)).mono ?_; rintro e w' ⟨rfl, nx, rfl⟩)
    go_ret
    exact ⟨rfl, by with_reducible repeat (first | exact Below.refl _ _ | apply ba | apply bp | apply bd | apply bn)⟩
  by_cases t1 : b ≤ o
  rotate_left
  · rw [show mayBx ⟨⟨a, b, c⟩, ⟨d, o, f⟩⟩ = false by simp [mayBx, vle, t1]]
    have d1 : decide (b ≤ o) = false := decide_eq_false t1
    go_enter Try.func19, Try.ntmps19
    go_wp2_with (go_at_call 33; refine (plus_post (rall_calls _ _ _ _ (by omega) (by omega) _)).mono ?_; rintro e w' ⟨rfl, nx, rfl⟩)
    go_ret
    exact ⟨rfl, by with_reducible repeat (first | exact Below.refl _ _ | apply ba | apply bp | apply bd | apply bn)⟩
  by_cases t2 : c ≤ f
  rotate_left
  · rw [show mayBx ⟨⟨a, b, c⟩, ⟨d, o, f⟩⟩ = false by simp [mayBx, vle, t2]]
    have d2 : decide (c ≤ f) = false := decide_eq_false t2
    go_enter Try.func19, Try.ntmps19
    go_wp2_with (go_at_call 33; refine (plus_post (rall_calls _ _ _ _ (by omega) (by omega) _)).mono ?_; rintro e w' ⟨rfl, nx, rfl⟩)
    go_ret
    exact ⟨rfl, by with_reducible repeat (first | exact Below.refl _ _ | apply ba | apply bp | apply bd | apply bn)⟩
  rw [show mayBx ⟨⟨a, b, c⟩, ⟨d, o, f⟩⟩ = true by simp [mayBx, vle, s1, s2, t0, t1, t2]]
  go_enter Try.func19, Try.ntmps19
  go_wp2_with (go_at_call 33; refine (plus_post (rall_calls _ _ _ _ (by omega) (by omega) _)).mono ?_; rintro e w' ⟨rfl, nx, rfl⟩)
  go_ret
  exact ⟨rfl, by with_reducible repeat (first | exact Below.refl _ _ | apply ba | apply bp | apply bd | apply bn)⟩

/-- what Join tells -/
def joinR (a b : B6) : B6 × Int := if mayBx a = true ∧ mayBx b = true then (joinBx a b, 0) else (zeroBx, 8)

theorem rbjoin_calls (a b c d o f a2 b2 c2 d2 o2 f2 : Int) (w : World) :
    Calls Try.prog 18 #[.agg #[.int .i64 a, .int .i64 b, .int .i64 c, .int .i64 d, .int .i64 o, .int .i64 f], .agg #[.int .i64 a2, .int .i64 b2, .int .i64 c2, .int .i64 d2, .int .i64 o2, .int .i64 f2]] w fun e w' => e = .returned (.tuple #[.agg #[.int .i64 ((joinR ⟨⟨a, b, c⟩, ⟨d, o, f⟩⟩ ⟨⟨a2, b2, c2⟩, ⟨d2, o2, f2⟩⟩).1).lo.x, .int .i64 ((joinR ⟨⟨a, b, c⟩, ⟨d, o, f⟩⟩ ⟨⟨a2, b2, c2⟩, ⟨d2, o2, f2⟩⟩).1).lo.y, .int .i64 ((joinR ⟨⟨a, b, c⟩, ⟨d, o, f⟩⟩ ⟨⟨a2, b2, c2⟩, ⟨d2, o2, f2⟩⟩).1).lo.z, .int .i64 ((joinR ⟨⟨a, b, c⟩, ⟨d, o, f⟩⟩ ⟨⟨a2, b2, c2⟩, ⟨d2, o2, f2⟩⟩).1).hi.x, .int .i64 ((joinR ⟨⟨a, b, c⟩, ⟨d, o, f⟩⟩ ⟨⟨a2, b2, c2⟩, ⟨d2, o2, f2⟩⟩).1).hi.y, .int .i64 ((joinR ⟨⟨a, b, c⟩, ⟨d, o, f⟩⟩ ⟨⟨a2, b2, c2⟩, ⟨d2, o2, f2⟩⟩).1).hi.z], .int .i64 (joinR ⟨⟨a, b, c⟩, ⟨d, o, f⟩⟩ ⟨⟨a2, b2, c2⟩, ⟨d2, o2, f2⟩⟩).2]) ∧ Below w.heap.size w w' := by
  cases s1 : mayBx ⟨⟨a, b, c⟩, ⟨d, o, f⟩⟩
  · rw [show joinR ⟨⟨a, b, c⟩, ⟨d, o, f⟩⟩ ⟨⟨a2, b2, c2⟩, ⟨d2, o2, f2⟩⟩ = (zeroBx, 8) by simp [joinR, s1]]
    go_enter Try.func18, Try.ntmps18
    go_wp2_with (go_at_call 19; refine (plus_post (rbmay_calls _ _ _ _ _ _ _)).mono ?_; rintro e w' ⟨rfl, nx, rfl⟩)
    exact bodyPost_ret (v := .tuple #[.agg #[.int .i64 0, .int .i64 0, .int .i64 0, .int .i64 0, .int .i64 0, .int .i64 0], .int .i64 8]) (by simp [results, Try.results18, go_sem, ↓IntWalk.iteOmega]) rfl ⟨rfl, by with_reducible repeat (first | exact Below.refl _ _ | apply ba | apply bp | apply bd | apply bn)⟩
  cases s2 : mayBx ⟨⟨a2, b2, c2⟩, ⟨d2, o2, f2⟩⟩
  · rw [show joinR ⟨⟨a, b, c⟩, ⟨d, o, f⟩⟩ ⟨⟨a2, b2, c2⟩, ⟨d2, o2, f2⟩⟩ = (zeroBx, 8) by simp [joinR, s2]]
    go_enter Try.func18, Try.ntmps18
    go_wp2_with (go_at_call 19; refine (plus_post (rbmay_calls _ _ _ _ _ _ _)).mono ?_; rintro e w' ⟨rfl, nx, rfl⟩)
    exact bodyPost_ret (v := .tuple #[.agg #[.int .i64 0, .int .i64 0, .int .i64 0, .int .i64 0, .int .i64 0, .int .i64 0], .int .i64 8]) (by simp [results, Try.results18, go_sem, ↓IntWalk.iteOmega]) rfl ⟨rfl, by with_reducible repeat (first | exact Below.refl _ _ | apply ba | apply bp | apply bd | apply bn)⟩
  rw [show joinR ⟨⟨a, b, c⟩, ⟨d, o, f⟩⟩ ⟨⟨a2, b2, c2⟩, ⟨d2, o2, f2⟩⟩ = (joinBx ⟨⟨a, b, c⟩, ⟨d, o, f⟩⟩ ⟨⟨a2, b2, c2⟩, ⟨d2, o2, f2⟩⟩, 0) by simp [joinR, s1, s2]]
  go_enter Try.func18, Try.ntmps18
  go_wp2_with (go_at_call 19; refine (plus_post (rbmay_calls _ _ _ _ _ _ _)).mono ?_; rintro e w' ⟨rfl, nx, rfl⟩)
  refine region_tail 11 (by kernel_rfl) (by kernel_rfl) ?_
  simp only [List.take_succ_cons, List.take_zero, List.drop_succ_cons, List.drop_zero]
  (repeat (go_big_quiet_step ((first | (go_at_call 21; exact plus_of (rlow_calls _ _ _ _ _ _ _)) | (go_at_call 22; exact plus_of (rhigh_calls _ _ _ _ _ _ _))))))
  refine wpQuiet_nil ?_
  rintro _ ⟨x2, rfl⟩
  go_wp2
  exact bodyPost_ret (v := .tuple #[.agg #[.int .i64 (min a a2), .int .i64 (min b b2), .int .i64 (min c c2), .int .i64 (max d d2), .int .i64 (max o o2), .int .i64 (max f f2)], .int .i64 0]) (by simp [results, Try.results18, go_sem, ↓IntWalk.iteOmega]) rfl ⟨rfl, by with_reducible repeat (first | exact Below.refl _ _ | apply ba | apply bp | apply bd | apply bn)⟩

end Go.Proofs.Ytondjoilcpcneaa
