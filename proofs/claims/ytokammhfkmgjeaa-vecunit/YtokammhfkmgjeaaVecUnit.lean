/- VecUnit is proved: the unit turns and moves nothing, on either side: the call returns true for any matrix and point. No condition. -/
import Derived.Test.YtokammhfkmgjeaaFlat
import Derived.Test.YtokammhfkmgjeaaVec8
namespace Go.Proofs.Ytokammhfkmgjeaa
open Go.RowKit Go.ChangeShapes Go.WideShapes Go.ChangeAt
set_option linter.unusedSimpArgs false
set_option linter.unusedVariables false
attribute [local go_sem] plus_size plus_drew dn_set dn_alloc dn_plus plus_dn cell_plus frozen_plus set_plus cell_alloc frozen_alloc set_alloc

attribute [local go_sem] ix3_0 ix3_1 ix3_2 ix9_0 ix9_1 ix9_2 eq9L

theorem moved_unit (v : V3) : moved unitM v = v := by
  obtain ⟨x, y, z⟩ := v
  simp only [moved, vplus, turned, rowBy, dot, unitM, V3.mk.injEq]
  omega
theorem mul_unit_left (m : Mt) : mulM unitM m = m := by
  obtain ⟨⟨⟨a, b, c⟩, ⟨d, o, f⟩, ⟨g, u, i⟩⟩, ⟨p, q, r⟩⟩ := m
  simp only [mulM, moved, vplus, turned, product, rowByAll, flipped, rowBy, dot, unitM, Mt.mk.injEq, M9.mk.injEq, V3.mk.injEq]
  omega
theorem mul_unit_right (m : Mt) : mulM m unitM = m := by
  obtain ⟨⟨⟨a, b, c⟩, ⟨d, o, f⟩, ⟨g, u, i⟩⟩, ⟨p, q, r⟩⟩ := m
  simp only [mulM, moved, vplus, turned, product, rowByAll, flipped, rowBy, dot, unitM, Mt.mk.injEq, M9.mk.injEq, V3.mk.injEq]
  omega
theorem may_unit : mayM unitM = true := by kernel_rfl

set_option maxHeartbeats 8000000 in
set_option maxRecDepth 100000 in
theorem vecUnit_main (a b c d o f g u i p q r x y z : Int) (k1 : Int) (k2 : Int) (v1 : V3) (m1 : Mt) (e1 : image ⟨⟨⟨256, 0, 0⟩, ⟨0, 256, 0⟩, ⟨0, 0, 256⟩⟩, ⟨0, 0, 0⟩⟩ ⟨x, y, z⟩ = (v1, k1)) (e2 : mul ⟨⟨⟨256, 0, 0⟩, ⟨0, 256, 0⟩, ⟨0, 0, 256⟩⟩, ⟨0, 0, 0⟩⟩ ⟨⟨⟨a, b, c⟩, ⟨d, o, f⟩, ⟨g, u, i⟩⟩, ⟨p, q, r⟩⟩ = (m1, k2)) (e3 : mul ⟨⟨⟨a, b, c⟩, ⟨d, o, f⟩, ⟨g, u, i⟩⟩, ⟨p, q, r⟩⟩ ⟨⟨⟨256, 0, 0⟩, ⟨0, 256, 0⟩, ⟨0, 0, 256⟩⟩, ⟨0, 0, 0⟩⟩ = (m1, k2))
    (hv : chkV ⟨x, y, z⟩ = 20 ∨ chkV ⟨x, y, z⟩ = 0 ∧ v1 = ⟨x, y, z⟩ ∧ k1 = 0) (hm : chkM ⟨⟨⟨a, b, c⟩, ⟨d, o, f⟩, ⟨g, u, i⟩⟩, ⟨p, q, r⟩⟩ = 20 ∧ k2 = 20 ∨ chkM ⟨⟨⟨a, b, c⟩, ⟨d, o, f⟩, ⟨g, u, i⟩⟩, ⟨p, q, r⟩⟩ = 0 ∧ m1 = ⟨⟨⟨a, b, c⟩, ⟨d, o, f⟩, ⟨g, u, i⟩⟩, ⟨p, q, r⟩⟩ ∧ k2 = 0) (w : World) :
    Calls Try.prog 6 #[.agg #[.int .i64 a, .int .i64 b, .int .i64 c, .int .i64 d, .int .i64 o, .int .i64 f, .int .i64 g, .int .i64 u, .int .i64 i, .int .i64 p, .int .i64 q, .int .i64 r], .agg #[.int .i64 x, .int .i64 y, .int .i64 z]] w fun e w' => e = .returned (.bool true) ∧ Below w.heap.size w w' := by
  rcases hv with hv | ⟨hv, rfl, rfl⟩ <;> rcases hm with ⟨hm, rfl⟩ | ⟨hm, rfl, rfl⟩
  all_goals
    go_enter Try.func6, Try.ntmps6
    go_wp2_with (first | (go_at_call 14; refine (plus_post (alive_calls _)).mono ?_; rintro e w' ⟨rfl, nx, rfl⟩) | (go_at_call 15; refine (plus_post (check_calls2 _ _ _ _)).mono ?_; rintro e w' ⟨rfl, nx, rfl⟩) | (go_at_call 19; refine (plus_post (checkMat_calls _ _ _ _ _ _ _ _ _ _ _ _ _)).mono ?_; rintro e w' ⟨rfl, nx, rfl⟩))
    refine region_fresh 6 6 (.cells #[.int .i64 0, .int .i64 0, .int .i64 0] 23) (by kernel_rfl) (by kernel_rfl) rfl (fun _ _ x _ _ h => by cases x <;> exact h) (fun _ _ => by kernel_rfl) ?_
    apply Exists.intro
    refine ⟨fun x0 => ?_, fun x1 x2 => ?_⟩
    · simp only [List.take_succ_cons, List.take_zero]
      (repeat (go_big_quiet_step ((first | (go_at_call 21; exact plus_of (unit_calls _)) | (go_at_call 13; exact plus_of (image_calls _ _ _ _ _ _ _ _ _ _ _ _ _ _ _ _)) | (go_at_call 11; exact plus_of (mul_calls _ _ _ _ _ _ _ _ _ _ _ _ _ _ _ _ _ _ _ _ _ _ _ _ _ ))))))
      exact wpQuiet_nil rfl
    simp only [List.drop_succ_cons, List.drop_zero]
    go_wp2_with (first | (go_at_call 14; refine (plus_post (alive_calls _)).mono ?_; rintro e w' ⟨rfl, nx, rfl⟩) | (go_at_call 15; refine (plus_post (check_calls2 _ _ _ _)).mono ?_; rintro e w' ⟨rfl, nx, rfl⟩) | (go_at_call 19; refine (plus_post (checkMat_calls _ _ _ _ _ _ _ _ _ _ _ _ _)).mono ?_; rintro e w' ⟨rfl, nx, rfl⟩))
    refine region_fresh 6 8 (.cells #[.int .i64 0, .int .i64 0, .int .i64 0, .int .i64 0, .int .i64 0, .int .i64 0, .int .i64 0, .int .i64 0, .int .i64 0, .int .i64 0, .int .i64 0, .int .i64 0] 31) (by kernel_rfl) (by kernel_rfl) rfl (fun _ _ x _ _ h => by cases x <;> exact h) (fun _ _ => by kernel_rfl) ?_
    apply Exists.intro
    refine ⟨fun x0 => ?_, fun x1 x2 => ?_⟩
    · simp only [List.take_succ_cons, List.take_zero]
      (repeat (go_big_quiet_step ((first | (go_at_call 21; exact plus_of (unit_calls _)) | (go_at_call 13; exact plus_of (image_calls _ _ _ _ _ _ _ _ _ _ _ _ _ _ _ _)) | (go_at_call 11; exact plus_of (mul_calls _ _ _ _ _ _ _ _ _ _ _ _ _ _ _ _ _ _ _ _ _ _ _ _ _ ))))))
      exact wpQuiet_nil rfl
    simp only [List.drop_succ_cons, List.drop_zero]
    go_wp2_with (first | (go_at_call 14; refine (plus_post (alive_calls _)).mono ?_; rintro e w' ⟨rfl, nx, rfl⟩) | (go_at_call 15; refine (plus_post (check_calls2 _ _ _ _)).mono ?_; rintro e w' ⟨rfl, nx, rfl⟩) | (go_at_call 19; refine (plus_post (checkMat_calls _ _ _ _ _ _ _ _ _ _ _ _ _)).mono ?_; rintro e w' ⟨rfl, nx, rfl⟩))
    refine region_fresh 6 10 (.cells #[.int .i64 0, .int .i64 0, .int .i64 0, .int .i64 0, .int .i64 0, .int .i64 0, .int .i64 0, .int .i64 0, .int .i64 0, .int .i64 0, .int .i64 0, .int .i64 0] 31) (by kernel_rfl) (by kernel_rfl) rfl (fun _ _ x _ _ h => by cases x <;> exact h) (fun _ _ => by kernel_rfl) ?_
    apply Exists.intro
    refine ⟨fun x0 => ?_, fun x1 x2 => ?_⟩
    · simp only [List.take_succ_cons, List.take_zero]
      (repeat (go_big_quiet_step ((first | (go_at_call 21; exact plus_of (unit_calls _)) | (go_at_call 13; exact plus_of (image_calls _ _ _ _ _ _ _ _ _ _ _ _ _ _ _ _)) | (go_at_call 11; exact plus_of (mul_calls _ _ _ _ _ _ _ _ _ _ _ _ _ _ _ _ _ _ _ _ _ _ _ _ _ ))))))
      exact wpQuiet_nil rfl
    simp only [List.drop_succ_cons, List.drop_zero]
    go_wp2_with (first | (go_at_call 14; refine (plus_post (alive_calls _)).mono ?_; rintro e w' ⟨rfl, nx, rfl⟩) | (go_at_call 15; refine (plus_post (check_calls2 _ _ _ _)).mono ?_; rintro e w' ⟨rfl, nx, rfl⟩) | (go_at_call 19; refine (plus_post (checkMat_calls _ _ _ _ _ _ _ _ _ _ _ _ _)).mono ?_; rintro e w' ⟨rfl, nx, rfl⟩))
    go_ret
    exact ⟨rfl, by with_reducible repeat (first | exact Below.refl _ _ | apply ba | apply bp | apply bd | apply bn)⟩

theorem vecUnit_walk (a b c d o f g u i p q r x y z : Int) (_ : -9223372036854775808 ≤ a) (_ : a ≤ 9223372036854775807) (_ : -9223372036854775808 ≤ b) (_ : b ≤ 9223372036854775807) (_ : -9223372036854775808 ≤ c) (_ : c ≤ 9223372036854775807) (_ : -9223372036854775808 ≤ d) (_ : d ≤ 9223372036854775807) (_ : -9223372036854775808 ≤ o) (_ : o ≤ 9223372036854775807) (_ : -9223372036854775808 ≤ f) (_ : f ≤ 9223372036854775807) (_ : -9223372036854775808 ≤ g) (_ : g ≤ 9223372036854775807) (_ : -9223372036854775808 ≤ u) (_ : u ≤ 9223372036854775807) (_ : -9223372036854775808 ≤ i) (_ : i ≤ 9223372036854775807) (_ : -9223372036854775808 ≤ p) (_ : p ≤ 9223372036854775807) (_ : -9223372036854775808 ≤ q) (_ : q ≤ 9223372036854775807) (_ : -9223372036854775808 ≤ r) (_ : r ≤ 9223372036854775807) (_ : -9223372036854775808 ≤ x) (_ : x ≤ 9223372036854775807) (_ : -9223372036854775808 ≤ y) (_ : y ≤ 9223372036854775807) (_ : -9223372036854775808 ≤ z) (_ : z ≤ 9223372036854775807) (w : World) :
    Calls Try.prog 6 #[.agg #[.int .i64 a, .int .i64 b, .int .i64 c, .int .i64 d, .int .i64 o, .int .i64 f, .int .i64 g, .int .i64 u, .int .i64 i, .int .i64 p, .int .i64 q, .int .i64 r], .agg #[.int .i64 x, .int .i64 y, .int .i64 z]] w fun e w' => e = .returned (.bool true) ∧ Below w.heap.size w w' := by
  have u1 : mulM ⟨⟨⟨256, 0, 0⟩, ⟨0, 256, 0⟩, ⟨0, 0, 256⟩⟩, ⟨0, 0, 0⟩⟩ ⟨⟨⟨a, b, c⟩, ⟨d, o, f⟩, ⟨g, u, i⟩⟩, ⟨p, q, r⟩⟩ = ⟨⟨⟨a, b, c⟩, ⟨d, o, f⟩, ⟨g, u, i⟩⟩, ⟨p, q, r⟩⟩ := mul_unit_left _
  have u2 : mulM ⟨⟨⟨a, b, c⟩, ⟨d, o, f⟩, ⟨g, u, i⟩⟩, ⟨p, q, r⟩⟩ ⟨⟨⟨256, 0, 0⟩, ⟨0, 256, 0⟩, ⟨0, 0, 256⟩⟩, ⟨0, 0, 0⟩⟩ = ⟨⟨⟨a, b, c⟩, ⟨d, o, f⟩, ⟨g, u, i⟩⟩, ⟨p, q, r⟩⟩ := mul_unit_right _
  have u3 : moved ⟨⟨⟨256, 0, 0⟩, ⟨0, 256, 0⟩, ⟨0, 0, 256⟩⟩, ⟨0, 0, 0⟩⟩ ⟨x, y, z⟩ = ⟨x, y, z⟩ := moved_unit _
  have u4 : mayM ⟨⟨⟨256, 0, 0⟩, ⟨0, 256, 0⟩, ⟨0, 0, 256⟩⟩, ⟨0, 0, 0⟩⟩ = true := may_unit
  have hm : ∃ m1 k2, mul ⟨⟨⟨256, 0, 0⟩, ⟨0, 256, 0⟩, ⟨0, 0, 256⟩⟩, ⟨0, 0, 0⟩⟩ ⟨⟨⟨a, b, c⟩, ⟨d, o, f⟩, ⟨g, u, i⟩⟩, ⟨p, q, r⟩⟩ = (m1, k2) ∧ mul ⟨⟨⟨a, b, c⟩, ⟨d, o, f⟩, ⟨g, u, i⟩⟩, ⟨p, q, r⟩⟩ ⟨⟨⟨256, 0, 0⟩, ⟨0, 256, 0⟩, ⟨0, 0, 256⟩⟩, ⟨0, 0, 0⟩⟩ = (m1, k2) ∧ (chkM ⟨⟨⟨a, b, c⟩, ⟨d, o, f⟩, ⟨g, u, i⟩⟩, ⟨p, q, r⟩⟩ = 20 ∧ k2 = 20 ∨ chkM ⟨⟨⟨a, b, c⟩, ⟨d, o, f⟩, ⟨g, u, i⟩⟩, ⟨p, q, r⟩⟩ = 0 ∧ m1 = ⟨⟨⟨a, b, c⟩, ⟨d, o, f⟩, ⟨g, u, i⟩⟩, ⟨p, q, r⟩⟩ ∧ k2 = 0) := by
    cases h : mayM ⟨⟨⟨a, b, c⟩, ⟨d, o, f⟩, ⟨g, u, i⟩⟩, ⟨p, q, r⟩⟩
    · exact ⟨zeroM, 20, by simp [mul, h, u4], by simp [mul, h], .inl ⟨by simp [chkM, h], rfl⟩⟩
    · exact ⟨⟨⟨⟨a, b, c⟩, ⟨d, o, f⟩, ⟨g, u, i⟩⟩, ⟨p, q, r⟩⟩, 0, by simp [mul, h, u4, u1], by simp [mul, h, u4, u2], .inr ⟨by simp [chkM, h], rfl, rfl⟩⟩
  have hv : ∃ v1 k1, image ⟨⟨⟨256, 0, 0⟩, ⟨0, 256, 0⟩, ⟨0, 0, 256⟩⟩, ⟨0, 0, 0⟩⟩ ⟨x, y, z⟩ = (v1, k1) ∧ (chkV ⟨x, y, z⟩ = 20 ∨ chkV ⟨x, y, z⟩ = 0 ∧ v1 = ⟨x, y, z⟩ ∧ k1 = 0) := by
    cases h : all3 ⟨x, y, z⟩ 4096
    · exact ⟨zeroV, 20, by simp [image, h, u4], .inl (by simp [chkV, h])⟩
    · exact ⟨⟨x, y, z⟩, 0, by simp [image, h, u4, u3], .inr ⟨by simp [chkV, h], rfl, rfl⟩⟩
  obtain ⟨m1, k2, h1, h2, h3⟩ := hm
  obtain ⟨v1, k1, h4, h5⟩ := hv
  exact vecUnit_main _ _ _ _ _ _ _ _ _ _ _ _ _ _ _ k1 k2 v1 m1 h4 h1 h2 h5 h3 w

set_option maxRecDepth 100000 in
theorem vecUnit_lifted (os : Os) (started : os.Started) (H : Type) (enc : TypeId × Value → H) :
    ReturnsInHanded {} Try.checked os 6 .any (Rows.vecUnitSpec.pre6 enc Try.prog Try.f6 Rows.vecUnitRow.domain false) (Rows.vecUnitSpec.post enc Try.prog Try.f6 false true false false) := by
  refine returnsInHanded_of_change (C := Try.checked) own started (by kernel_rfl) Try.func6
    (ChangeSpec.witness6 (enc := enc) (C := Try.checked) false ⟨#[], #[.agg #[.int .i64 0, .int .i64 0, .int .i64 0, .int .i64 0, .int .i64 0, .int .i64 0, .int .i64 0, .int .i64 0, .int .i64 0, .int .i64 0, .int .i64 0, .int .i64 0], .agg #[.int .i64 0, .int .i64 0, .int .i64 0]], []⟩ 8 (by kernel_rfl) (by kernel_rfl) (by kernel_rfl) (by kernel_rfl)) ?_
  intro W base args ds gs before hval0 hW hcnd _
  have hval : ∀ (j : Nat) t v, Try.f6.params[j]? = some t → args[j]? = some v → Value.okWide Try.prog W .any base t v := hval0
  have hW' := hW
  obtain ⟨p, q, hA0, hV, rfl, hfz, hnd⟩ := hW
  have hA : DataW.TrodAll enc Try.prog W 0 (fun _ => true) true Try.f6.params.toList args.toList ds p := hA0
  rw [Try.params6] at hA hval
  obtain ⟨v0, vs0, d0, ds0, p0, q0, hargs, rfl, rfl, h0, r0⟩ := trodAll_cons hA
  obtain ⟨v1, vs1, d1, ds1, p1, q1, rfl, rfl, rfl, h1, r1⟩ := trodAll_cons r0
  obtain ⟨rfl, rfl, rfl⟩ := trodAll_nil r1
  obtain rfl : args = #[v0, v1] := by cases args; simp_all
  obtain ⟨a0_0, a0_1, a0_2, a0_3, a0_4, a0_5, a0_6, a0_7, a0_8, a0_9, a0_10, a0_11, rfl, ca0_0, ca0_1, ca0_2, ca0_3, ca0_4, ca0_5, ca0_6, ca0_7, ca0_8, ca0_9, ca0_10, ca0_11⟩ := open_flat12 (k := 4) (t := 31) (by kernel_rfl) (by kernel_rfl) (by kernel_rfl) (hval 0 31 v0 rfl rfl) h0
  obtain ⟨a1_0, a1_1, a1_2, rfl, ca1_0, ca1_1, ca1_2⟩ := open_flat3 (k := 4) (t := 23) (by kernel_rfl) (by kernel_rfl) (by kernel_rfl) (hval 1 23 v1 rfl rfl) h1
  refine (vecUnit_walk a0_0 a0_1 a0_2 a0_3 a0_4 a0_5 a0_6 a0_7 a0_8 a0_9 a0_10 a0_11 a1_0 a1_1 a1_2 ca0_0.1 ca0_0.2 ca0_1.1 ca0_1.2 ca0_2.1 ca0_2.2 ca0_3.1 ca0_3.2 ca0_4.1 ca0_4.2 ca0_5.1 ca0_5.2 ca0_6.1 ca0_6.2 ca0_7.1 ca0_7.2 ca0_8.1 ca0_8.2 ca0_9.1 ca0_9.2 ca0_10.1 ca0_10.2 ca0_11.1 ca0_11.2 ca1_0.1 ca1_0.2 ca1_1.1 ca1_1.2 ca1_2.1 ca1_2.2 W).mono fun e W' ⟨he, hb⟩ => ?_
  exact ⟨_, he, law_post laidOut Try.underlying4 rfl (by kernel_rfl) (by kernel_rfl) (fun ds h => match ds, h with | [_, _], _ => rfl) hW' hb⟩

theorem vecUnit_holds : Rows.VecUnitSaid :=
  OpenClaim.holds_of_wide 6 Try.f6 rfl rfl rfl rfl rfl rfl rfl ⟨rfl, rfl, rfl, rfl, rfl⟩ rfl rfl rfl rfl rfl (by kernel_rfl) Try.func6 (by kernel_rfl)
    (of_decide_eq_true (by kernel_rfl)) (by unfold Func.isWrapper; first | (rw [if_pos (by decide +kernel)]; kernel_rfl) | (rw [if_neg (by decide +kernel)]; exact ⟨rfl, rfl⟩))
    (fun os started H enc _ => vecUnit_lifted os started H enc)
#print axioms vecUnit_holds
end Go.Proofs.Ytokammhfkmgjeaa
