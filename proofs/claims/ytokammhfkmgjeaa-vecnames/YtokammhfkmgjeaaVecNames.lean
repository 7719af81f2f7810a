/- VecNames is proved: the limits and errors have their numbers, and the chapter's examples come out: the call returns true. -/
import Derived.Test.YtokammhfkmgjeaaFlat
import Derived.Test.YtokammhfkmgjeaaVec8
namespace Go.Proofs.Ytokammhfkmgjeaa
open Go.RowKit Go.ChangeShapes Go.WideShapes Go.ChangeAt
set_option linter.unusedSimpArgs false
set_option linter.unusedVariables false
attribute [local go_sem] plus_size plus_drew dn_set dn_alloc dn_plus plus_dn cell_plus frozen_plus set_plus cell_alloc frozen_alloc set_alloc

attribute [local go_sem] ix3_0 ix3_1 ix3_2 ix9_0 ix9_1 ix9_2 eq9L

set_option maxHeartbeats 4000000 in
set_option maxRecDepth 100000 in
theorem vecNames_walk (w : World) :
    Calls Try.prog 3 #[] w fun e w' => e = .returned (.bool true) ∧ Below w.heap.size w w' := by
  have e1 : turn ⟨⟨128, 0, 0⟩, ⟨0, -128, 0⟩, ⟨0, 0, 256⟩⟩ ⟨3, 3, 3⟩ = (⟨1, -2, 3⟩, 0) := by kernel_rfl
  have e2 : mul ⟨⟨⟨256, 0, 0⟩, ⟨0, 256, 0⟩, ⟨0, 0, 256⟩⟩, ⟨1, 0, 0⟩⟩ ⟨⟨⟨256, 0, 0⟩, ⟨0, 256, 0⟩, ⟨0, 0, 256⟩⟩, ⟨0, 1, 0⟩⟩ = (⟨⟨⟨256, 0, 0⟩, ⟨0, 256, 0⟩, ⟨0, 0, 256⟩⟩, ⟨1, 1, 0⟩⟩, 0) := by kernel_rfl
  have e3 : image ⟨⟨⟨256, 0, 0⟩, ⟨0, 256, 0⟩, ⟨0, 0, 256⟩⟩, ⟨4096, 0, 0⟩⟩ ⟨1, 0, 0⟩ = (⟨0, 0, 0⟩, 20) := by kernel_rfl
  have e4 : turn ⟨⟨1025, 0, 0⟩, ⟨0, 0, 0⟩, ⟨0, 0, 0⟩⟩ ⟨0, 0, 0⟩ = (⟨0, 0, 0⟩, 2) := by kernel_rfl
  have e5 : turn ⟨⟨0, 0, 0⟩, ⟨0, 0, 0⟩, ⟨0, 0, 0⟩⟩ ⟨32769, 0, 0⟩ = (⟨0, 0, 0⟩, 2) := by kernel_rfl
  have e6 : chkV ⟨4097, 0, 0⟩ = 20 := by kernel_rfl
  have e7 : chkV ⟨0, -4096, 4096⟩ = 0 := by kernel_rfl
  go_enter Try.func3, Try.ntmps3
  go_wp2_with (first | (go_at_call 10; refine (plus_post (of_calls _ _ _ _)).mono ?_; rintro e w' ⟨rfl, nx, rfl⟩) | (go_at_call 12; refine (plus_post (by_calls _ _ _ _)).mono ?_; rintro e w' ⟨rfl, nx, rfl⟩) | (go_at_call 9; refine (plus_post (turn_calls _ _ _ _ _ _ _ _ _ _ _ _ _)).mono ?_; rintro e w' ⟨rfl, nx, rfl⟩) | (go_at_call 11; refine (plus_post (mul_calls _ _ _ _ _ _ _ _ _ _ _ _ _ _ _ _ _ _ _ _ _ _ _ _ _ )).mono ?_; rintro e w' ⟨rfl, nx, rfl⟩) | (go_at_call 13; refine (plus_post (image_calls _ _ _ _ _ _ _ _ _ _ _ _ _ _ _ _)).mono ?_; rintro e w' ⟨rfl, nx, rfl⟩))
  refine region_plus (by kernel_rfl) (by kernel_rfl) ?_
  (repeat (go_big_quiet_step ((first | (go_at_call 10; exact plus_of (of_calls _ _ _ _)) | (go_at_call 12; exact plus_of (by_calls _ _ _ _)) | (go_at_call 14; exact plus_of (alive_calls _)) | (go_at_call 15; exact plus_of (check_calls2 _ _ _ _))))))
  refine wpQuiet_nil ?_
  rintro _ ⟨x2, rfl⟩
  go_wp2
  go_ret
  exact ⟨rfl, by with_reducible repeat (first | exact Below.refl _ _ | apply ba | apply bp | apply bd | apply bn)⟩

set_option maxRecDepth 100000 in
theorem vecNames_lifted (os : Os) (started : os.Started) (H : Type) (enc : TypeId × Value → H) :
    ReturnsInHanded {} Try.checked os 3 .any (Rows.vecNamesSpec.pre6 enc Try.prog Try.f3 Rows.vecNamesRow.domain false) (Rows.vecNamesSpec.post enc Try.prog Try.f3 false true false false) := by
  refine returnsInHanded_of_change (C := Try.checked) own started (by kernel_rfl) Try.func3
    (ChangeSpec.witness6 (enc := enc) (C := Try.checked) false ⟨#[], #[], []⟩ 8 (by kernel_rfl) (by kernel_rfl) (by kernel_rfl) (by kernel_rfl)) ?_
  intro W base args ds gs before hval0 hW hcnd _
  have hval : ∀ (j : Nat) t v, Try.f3.params[j]? = some t → args[j]? = some v → Value.okWide Try.prog W .any base t v := hval0
  have hW' := hW
  obtain ⟨p, q, hA0, hV, rfl, hfz, hnd⟩ := hW
  have hA : DataW.TrodAll enc Try.prog W 0 (fun _ => true) true Try.f3.params.toList args.toList ds p := hA0
  rw [Try.params3] at hA hval
  obtain ⟨hargs, rfl, rfl⟩ := trodAll_nil hA
  obtain rfl : args = #[] := by cases args; simp_all
  refine (vecNames_walk   W).mono fun e W' ⟨he, hb⟩ => ?_
  exact ⟨_, he, law_post laidOut Try.underlying4 rfl (by kernel_rfl) (by kernel_rfl) (fun ds h => match ds, h with | [], _ => rfl) hW' hb⟩

theorem vecNames_holds : Rows.VecNamesSaid :=
  OpenClaim.holds_of_wide 3 Try.f3 rfl rfl rfl rfl rfl rfl rfl ⟨rfl, rfl, rfl, rfl, rfl⟩ rfl rfl rfl rfl rfl (by kernel_rfl) Try.func3 (by kernel_rfl)
    (of_decide_eq_true (by kernel_rfl)) (by unfold Func.isWrapper; first | (rw [if_pos (by decide +kernel)]; kernel_rfl) | (rw [if_neg (by decide +kernel)]; exact ⟨rfl, rfl⟩))
    (fun os started H enc _ => vecNames_lifted os started H enc)
#print axioms vecNames_holds
end Go.Proofs.Ytokammhfkmgjeaa
