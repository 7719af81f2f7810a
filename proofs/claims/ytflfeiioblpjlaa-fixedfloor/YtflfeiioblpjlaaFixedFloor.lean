/- FixedFloor is proved: for any two ints the call returns true: what is rounded down is the greatest number whose multiple is not above, what is rounded up the least whose multiple is not below, and a divisor below 1 is refused. No condition. -/
import Derived.Test.YtflfeiioblpjlaaLaw
import Derived.Test.YtflfeiioblpjlaaFixed3
namespace Go.Proofs.Ytflfeiioblpjlaa
open Go.RowKit Go.ChangeShapes Go.WideShapes Go.ChangeAt
set_option linter.unusedSimpArgs false
set_option linter.unusedVariables false
attribute [local go_sem] plus_size plus_drew dn_set dn_alloc dn_plus plus_dn cell_plus frozen_plus set_plus cell_alloc frozen_alloc set_alloc

theorem flo_yes {a b : Int} (h : 1 ≤ b) : (flo a b).1 = a / b ∧ (flo a b).2 = 0 := by simp [flo, h]
theorem flo_no {a b : Int} (h : ¬ 1 ≤ b) : (flo a b).1 = 0 ∧ (flo a b).2 = 2 := by simp [flo, h]
theorem cei_yes {a b : Int} (h : 1 ≤ b) : (cei a b).1 = up a b ∧ (cei a b).2 = 0 := by simp [cei, h]
theorem cei_no {a b : Int} (h : ¬ 1 ≤ b) : (cei a b).1 = 0 ∧ (cei a b).2 = 2 := by simp [cei, h]

theorem fixedFloor_walk (a b : Int) (ha : -9223372036854775808 ≤ a) (ha2 : a ≤ 9223372036854775807) (hb1 : -9223372036854775808 ≤ b) (hb2 : b ≤ 9223372036854775807) (w : World) :
    Calls Try.prog 5 #[.int .i64 a, .int .i64 b] w fun e w' => e = .returned (.bool true) ∧ Below w.heap.size w w' := by
  by_cases hb : 1 ≤ b
  · obtain ⟨f1, f2⟩ := @flo_yes a b hb
    obtain ⟨c1, c2⟩ := @cei_yes a b hb
    by_cases hb2 : 2147483648 < b
    · go_enter Try.func5, Try.ntmps5
      go_wp2_with (first | (go_at_call 15; refine (plus_post (alive_calls _)).mono ?_; rintro e w' ⟨rfl, x, rfl⟩) | (go_at_call 8; refine (plus_post (floor_calls _ _ (by omega) (by omega) _)).mono ?_; rintro e w' ⟨rfl, x, rfl⟩) | (go_at_call 9; refine (plus_post (ceil_calls _ _ (by omega) (by omega) _)).mono ?_; rintro e w' ⟨rfl, x, rfl⟩))
      go_ret
      exact ⟨rfl, by with_reducible repeat (first | exact Below.refl _ _ | apply ba | apply bp | apply bd | apply bn)⟩
    by_cases hl : a < -4611686018427387904
    · go_enter Try.func5, Try.ntmps5
      go_wp2_with (first | (go_at_call 15; refine (plus_post (alive_calls _)).mono ?_; rintro e w' ⟨rfl, x, rfl⟩) | (go_at_call 8; refine (plus_post (floor_calls _ _ (by omega) (by omega) _)).mono ?_; rintro e w' ⟨rfl, x, rfl⟩) | (go_at_call 9; refine (plus_post (ceil_calls _ _ (by omega) (by omega) _)).mono ?_; rintro e w' ⟨rfl, x, rfl⟩))
      go_ret
      exact ⟨rfl, by with_reducible repeat (first | exact Below.refl _ _ | apply ba | apply bp | apply bd | apply bn)⟩
    by_cases hh : 4611686018427387904 < a
    · go_enter Try.func5, Try.ntmps5
      go_wp2_with (first | (go_at_call 15; refine (plus_post (alive_calls _)).mono ?_; rintro e w' ⟨rfl, x, rfl⟩) | (go_at_call 8; refine (plus_post (floor_calls _ _ (by omega) (by omega) _)).mono ?_; rintro e w' ⟨rfl, x, rfl⟩) | (go_at_call 9; refine (plus_post (ceil_calls _ _ (by omega) (by omega) _)).mono ?_; rintro e w' ⟨rfl, x, rfl⟩))
      go_ret
      exact ⟨rfl, by with_reducible repeat (first | exact Below.refl _ _ | apply ba | apply bp | apply bd | apply bn)⟩
    obtain ⟨d1, d2⟩ := @down_is a b hb
    obtain ⟨u1, u2⟩ := @up_is a b hb
    go_enter Try.func5, Try.ntmps5
    go_wp2_with (first | (go_at_call 15; refine (plus_post (alive_calls _)).mono ?_; rintro e w' ⟨rfl, x, rfl⟩) | (go_at_call 8; refine (plus_post (floor_calls _ _ (by omega) (by omega) _)).mono ?_; rintro e w' ⟨rfl, x, rfl⟩) | (go_at_call 9; refine (plus_post (ceil_calls _ _ (by omega) (by omega) _)).mono ?_; rintro e w' ⟨rfl, x, rfl⟩))
    go_ret
    exact ⟨rfl, by with_reducible repeat (first | exact Below.refl _ _ | apply ba | apply bp | apply bd | apply bn)⟩
  · obtain ⟨f1, f2⟩ := @flo_no a b hb
    obtain ⟨c1, c2⟩ := @cei_no a b hb
    go_enter Try.func5, Try.ntmps5
    go_wp2_with (first | (go_at_call 15; refine (plus_post (alive_calls _)).mono ?_; rintro e w' ⟨rfl, x, rfl⟩) | (go_at_call 8; refine (plus_post (floor_calls _ _ (by omega) (by omega) _)).mono ?_; rintro e w' ⟨rfl, x, rfl⟩) | (go_at_call 9; refine (plus_post (ceil_calls _ _ (by omega) (by omega) _)).mono ?_; rintro e w' ⟨rfl, x, rfl⟩))
    go_ret
    exact ⟨rfl, by with_reducible repeat (first | exact Below.refl _ _ | apply ba | apply bp | apply bd | apply bn)⟩

set_option maxRecDepth 100000 in
theorem fixedFloor_lifted (os : Os) (started : os.Started) (H : Type) (enc : TypeId × Value → H) :
    ReturnsInHanded {} Try.checked os 5 .any (Rows.fixedFloorSpec.pre6 enc Try.prog Try.f5 Rows.fixedFloorRow.domain false) (Rows.fixedFloorSpec.post enc Try.prog Try.f5 false true false false) := by
  refine returnsInHanded_of_change (C := Try.checked) own started (by kernel_rfl) Try.func5
    (ChangeSpec.witness6 (enc := enc) (C := Try.checked) false ⟨#[], #[.int .i64 0, .int .i64 0], []⟩ 8 (by kernel_rfl) (by kernel_rfl) (by kernel_rfl) (by kernel_rfl)) ?_
  intro W base args ds gs before hval0 hW hcnd _
  have hval : ∀ (j : Nat) t v, Try.f5.params[j]? = some t → args[j]? = some v → Value.okWide Try.prog W .any base t v := hval0
  have hW' := hW
  obtain ⟨p, q, hA0, hV, rfl, hfz, hnd⟩ := hW
  have hA : DataW.TrodAll enc Try.prog W 0 (fun _ => true) true Try.f5.params.toList args.toList ds p := hA0
  rw [Try.params5] at hA hval
  obtain ⟨v0, vs0, d0, ds0, p0, q0, hargs, rfl, rfl, h0, r0⟩ := trodAll_cons hA
  obtain ⟨v1, vs1, d1, ds1, p1, q1, rfl, rfl, rfl, h1, r1⟩ := trodAll_cons r0
  obtain ⟨rfl, rfl, rfl⟩ := trodAll_nil r1
  obtain rfl : args = #[v0, v1] := by cases args; simp_all
  obtain ⟨a0, rfl, _, _, w0⟩ := open_int Try.underlying3 (hval 0 3 v0 rfl rfl) h0
  have b0 := bounds_i64 w0
  obtain ⟨a1, rfl, _, _, w1⟩ := open_int Try.underlying3 (hval 1 3 v1 rfl rfl) h1
  have b1 := bounds_i64 w1
  refine (fixedFloor_walk a0 a1 b0.1 b0.2 b1.1 b1.2 W).mono fun e W' ⟨he, hb⟩ => ?_
  exact ⟨_, he, law_post laidOut Try.underlying4 rfl (by kernel_rfl) (by kernel_rfl) (fun ds h => match ds, h with | [_, _], _ => rfl) hW' hb⟩

theorem fixedFloor_holds : Rows.FixedFloorSaid :=
  OpenClaim.holds_of_wide 5 Try.f5 rfl rfl rfl rfl rfl rfl rfl ⟨rfl, rfl, rfl, rfl, rfl⟩ rfl rfl rfl rfl rfl (by kernel_rfl) Try.func5 (by kernel_rfl)
    (of_decide_eq_true (by kernel_rfl)) (by unfold Func.isWrapper; first | (rw [if_pos (by decide +kernel)]; kernel_rfl) | (rw [if_neg (by decide +kernel)]; exact ⟨rfl, rfl⟩))
    (fun os started H enc _ => fixedFloor_lifted os started H enc)
#print axioms fixedFloor_holds
end Go.Proofs.Ytflfeiioblpjlaa
