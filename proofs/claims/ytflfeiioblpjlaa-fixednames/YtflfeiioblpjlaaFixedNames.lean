/- FixedNames is proved: the limits and errors have their numbers, and the chapter's examples come out: the call returns true. -/
import Derived.Test.YtflfeiioblpjlaaLaw
import Derived.Test.YtflfeiioblpjlaaFixed3
namespace Go.Proofs.Ytflfeiioblpjlaa
open Go.RowKit Go.ChangeShapes Go.WideShapes Go.ChangeAt
set_option linter.unusedSimpArgs false
set_option linter.unusedVariables false
attribute [local go_sem] plus_size plus_drew dn_set dn_alloc dn_plus plus_dn cell_plus frozen_plus set_plus cell_alloc frozen_alloc set_alloc

set_option maxHeartbeats 4000000 in
set_option maxRecDepth 100000 in
theorem fixedNames_walk (w : World) :
    Calls Try.prog 3 #[] w fun e w' => e = .returned (.bool true) ∧ Below w.heap.size w w' := by
  have e1 : flo 7 2 = (3, 0) := by decide
  have e2 : cei (-7) 2 = (-3, 0) := by decide
  have e3 : flo 5 0 = (0, 2) := by decide
  have e4 : cei 5 (-1) = (0, 2) := by decide
  have e5 : add 1 3 (-5) 2 = (-4, 5, 0) := by decide
  have e6 : scale 1 3 (-2) = (-6, -2, 0) := by decide
  have e7 : quo (-7) 7 2 = (-4, 3, 0) := by decide
  have e8 : join 1 3 7 9 = (1, 9, 0) := by decide
  have e9 : add 1099511627776 1099511627776 1 1 = (0, 0, 20) := by decide
  have e10 : scale 0 1 1048577 = (0, 0, 2) := by decide
  have e11 : chk 3 1 = 8 := by decide
  have e12 : chk 1 1 = 0 := by decide
  go_enter Try.func3, Try.ntmps3
  go_wp2_with (first | (go_at_call 8; refine (plus_post (floor_calls _ _ (by omega) (by omega) _)).mono ?_; rintro e w' ⟨rfl, x, rfl⟩) | (go_at_call 9; refine (plus_post (ceil_calls _ _ (by omega) (by omega) _)).mono ?_; rintro e w' ⟨rfl, x, rfl⟩) | (go_at_call 10; refine (plus_post (add_calls _ _ _ _ _)).mono ?_; rintro e w' ⟨rfl, x, rfl⟩) | (go_at_call 12; refine (plus_post (scale_calls _ _ _ _)).mono ?_; rintro e w' ⟨rfl, x, rfl⟩) | (go_at_call 13; refine (plus_post (div_calls _ _ _ _)).mono ?_; rintro e w' ⟨rfl, x, rfl⟩) | (go_at_call 14; refine (plus_post (join_calls _ _ _ _ _)).mono ?_; rintro e w' ⟨rfl, x, rfl⟩) | (go_at_call 11; refine (plus_post (lspan_calls _ _ _)).mono ?_; rintro e w' ⟨rfl, x, rfl⟩) | (go_at_call 16; refine (plus_post (check_calls _ _ _)).mono ?_; rintro e w' ⟨rfl, x, rfl⟩) | (go_at_call 15; refine (plus_post (alive_calls _)).mono ?_; rintro e w' ⟨rfl, x, rfl⟩))
  refine region_plus (by kernel_rfl) (by kernel_rfl) ?_
  repeat (go_big_quiet_step ((go_at_call 11; exact plus_of (lspan_calls _ _ _))))
  refine wpQuiet_nil ?_
  rintro _ ⟨x2, rfl⟩
  go_wp2_with (first | (go_at_call 8; refine (plus_post (floor_calls _ _ (by omega) (by omega) _)).mono ?_; rintro e w' ⟨rfl, x, rfl⟩) | (go_at_call 9; refine (plus_post (ceil_calls _ _ (by omega) (by omega) _)).mono ?_; rintro e w' ⟨rfl, x, rfl⟩) | (go_at_call 10; refine (plus_post (add_calls _ _ _ _ _)).mono ?_; rintro e w' ⟨rfl, x, rfl⟩) | (go_at_call 12; refine (plus_post (scale_calls _ _ _ _)).mono ?_; rintro e w' ⟨rfl, x, rfl⟩) | (go_at_call 13; refine (plus_post (div_calls _ _ _ _)).mono ?_; rintro e w' ⟨rfl, x, rfl⟩) | (go_at_call 14; refine (plus_post (join_calls _ _ _ _ _)).mono ?_; rintro e w' ⟨rfl, x, rfl⟩) | (go_at_call 11; refine (plus_post (lspan_calls _ _ _)).mono ?_; rintro e w' ⟨rfl, x, rfl⟩) | (go_at_call 16; refine (plus_post (check_calls _ _ _)).mono ?_; rintro e w' ⟨rfl, x, rfl⟩) | (go_at_call 15; refine (plus_post (alive_calls _)).mono ?_; rintro e w' ⟨rfl, x, rfl⟩))
  go_ret
  exact ⟨rfl, by with_reducible repeat (first | exact Below.refl _ _ | apply ba | apply bp | apply bd | apply bn)⟩

set_option maxRecDepth 100000 in
theorem fixedNames_lifted (os : Os) (started : os.Started) (H : Type) (enc : TypeId × Value → H) :
    ReturnsInHanded {} Try.checked os 3 .any (Rows.fixedNamesSpec.pre6 enc Try.prog Try.f3 Rows.fixedNamesRow.domain false) (Rows.fixedNamesSpec.post enc Try.prog Try.f3 false true false false) := by
  refine returnsInHanded_of_change (C := Try.checked) own started (by kernel_rfl) Try.func3
    (ChangeSpec.witness6 (enc := enc) (C := Try.checked) false ⟨#[], #[], []⟩ 8 (by kernel_rfl) (by kernel_rfl) (by kernel_rfl) (by kernel_rfl)) ?_
  intro W base args ds gs before hval0 hW hcnd _
  have hval : ∀ (j : Nat) t v, Try.f3.params[j]? = some t → args[j]? = some v → Value.okWide Try.prog W .any base t v := hval0
  have hW' := hW
  obtain ⟨p, q, hA0, hV, rfl, hfz, hnd⟩ := hW
  have hA : DataW.TrodAll enc Try.prog W 0 (fun _ => true) true Try.f3.params.toList args.toList ds p := hA0
  rw [Try.params3] at hA hval
  obtain ⟨hargs, rfl, rfl⟩ := trodAll_nil hA
  obtain rfl : args = #[] := by cases args; simp_all
  refine (fixedNames_walk   W).mono fun e W' ⟨he, hb⟩ => ?_
  exact ⟨_, he, law_post laidOut Try.underlying4 rfl (by kernel_rfl) (by kernel_rfl) (fun ds h => match ds, h with | [], _ => rfl) hW' hb⟩

theorem fixedNames_holds : Rows.FixedNamesSaid :=
  OpenClaim.holds_of_wide 3 Try.f3 rfl rfl rfl rfl rfl rfl rfl ⟨rfl, rfl, rfl, rfl, rfl⟩ rfl rfl rfl rfl rfl (by kernel_rfl) Try.func3 (by kernel_rfl)
    (of_decide_eq_true (by kernel_rfl)) (by unfold Func.isWrapper; first | (rw [if_pos (by decide +kernel)]; kernel_rfl) | (rw [if_neg (by decide +kernel)]; exact ⟨rfl, rfl⟩))
    (fun os started H enc _ => fixedNames_lifted os started H enc)
#print axioms fixedNames_holds
end Go.Proofs.Ytflfeiioblpjlaa
