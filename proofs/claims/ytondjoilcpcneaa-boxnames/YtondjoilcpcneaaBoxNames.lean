/- BoxNames is proved: the limits and errors have their numbers, and the chapter's examples come out: the call returns true. -/
import Derived.Test.YtondjoilcpcneaaFlat
import Derived.Test.YtondjoilcpcneaaBoxA
import Derived.Test.YtondjoilcpcneaaBoxJ
import Derived.Test.YtondjoilcpcneaaBox8
namespace Go.Proofs.Ytondjoilcpcneaa
open Go.RowKit Go.ChangeShapes Go.WideShapes Go.ChangeAt
set_option linter.unusedSimpArgs false
set_option linter.unusedVariables false
attribute [local go_sem] plus_size plus_drew dn_set dn_alloc dn_plus plus_dn cell_plus frozen_plus set_plus cell_alloc frozen_alloc set_alloc

theorem of_nil (w : World) : Calls Try.prog 13 #[.slice none 0 0] w fun e w' => e = .returned (.tuple #[.agg #[.int .i64 0, .int .i64 0, .int .i64 0, .int .i64 0, .int .i64 0, .int .i64 0], .int .i64 4]) ∧ Below w.heap.size w w' := of_many none 0 0 (fun _ => zeroV) w (by decide) (.inl (by decide))
def farP (_ : Nat) : V3 := ⟨32769, 0, 0⟩
theorem of_far (g : Nat) (w : World) (hl : Lies w g 0 1 farP) : Calls Try.prog 13 #[.slice (some ⟨g, 0, none⟩) 1 1] w fun e w' => e = .returned (.tuple #[.agg #[.int .i64 0, .int .i64 0, .int .i64 0, .int .i64 0, .int .i64 0, .int .i64 0], .int .i64 20]) ∧ Below w.heap.size w w' :=
  of_some g 0 1 1 farP w (by decide) (by decide) hl

set_option maxHeartbeats 8000000 in
set_option maxRecDepth 100000 in
theorem boxNames_walk (w : World) : Calls Try.prog 3 #[] w fun e w' => e = .returned (.bool true) ∧ Below w.heap.size w w' := by
  have e1 : joinR ⟨⟨1, 2, 0⟩, ⟨3, 5, 0⟩⟩ ⟨⟨0, 0, 9⟩, ⟨0, 0, 9⟩⟩ = (⟨⟨0, 0, 0⟩, ⟨3, 5, 9⟩⟩, 0) := by kernel_rfl
  have e2 : turnedR ⟨⟨128, 0, 0⟩, ⟨0, -256, 0⟩, ⟨256, 256, 0⟩⟩ ⟨⟨1, 2, 0⟩, ⟨3, 5, 0⟩⟩ = (⟨⟨0, -5, 3⟩, ⟨1, -2, 8⟩⟩, 0) := by kernel_rfl
  have e3 : turnedR ⟨⟨0, 1025, 0⟩, ⟨0, 0, 0⟩, ⟨0, 0, 0⟩⟩ ⟨⟨1, 2, 0⟩, ⟨3, 5, 0⟩⟩ = (⟨⟨0, 0, 0⟩, ⟨0, 0, 0⟩⟩, 2) := by kernel_rfl
  have e4 : turnedR ⟨⟨1024, 0, 0⟩, ⟨0, 0, 0⟩, ⟨0, 0, 0⟩⟩ ⟨⟨0, 0, 0⟩, ⟨32768, 0, 0⟩⟩ = (⟨⟨0, 0, 0⟩, ⟨0, 0, 0⟩⟩, 20) := by kernel_rfl
  have e5 : chkBx ⟨⟨1, 0, 0⟩, ⟨0, 0, 0⟩⟩ = 8 := by kernel_rfl
  have e6 : holdsBx ⟨⟨1, 2, 0⟩, ⟨3, 5, 0⟩⟩ ⟨3, 2, 0⟩ = true := by kernel_rfl
  have e7 : holdsBx ⟨⟨1, 2, 0⟩, ⟨3, 5, 0⟩⟩ ⟨3, 6, 0⟩ = false := by kernel_rfl
  go_enter Try.func3, Try.ntmps3
  go_wp2_with (first | (go_at_call 10; refine (plus_post (lof_calls _ _ _ _)).mono ?_; rintro e w' ⟨rfl, nx, rfl⟩) | (go_at_call 9; refine (plus_post (lto_calls _ _ _ _ _ _ _)).mono ?_; rintro e w' ⟨rfl, nx, rfl⟩) | (go_at_call 12; refine (plus_post (bturned_calls _ _ _ _ _ _ _ _ _ _ _ _ _ _ _ _ )).mono ?_; rintro e w' ⟨rfl, nx, rfl⟩) | (go_at_call_of 13 (Value.slice none 0 0); refine (plus_post (of_nil _)).mono ?_; rintro e w' ⟨rfl, nx, rfl⟩) | (go_at_call 13; refine (plus_post (of_far _ _ ⟨by simp [go_sem]; try omega, fun k hk => by match k, hk with | 0, _ => simp [go_sem, farP]⟩)).mono ?_; rintro e w' ⟨rfl, nx, rfl⟩))
  refine region_fresh 8 2 (.cells #[.int .i64 0, .int .i64 0, .int .i64 0, .int .i64 0, .int .i64 0, .int .i64 0] 25) (by kernel_rfl) (by kernel_rfl) rfl (fun _ _ x _ _ h => by cases x <;> exact h) (fun _ _ => by kernel_rfl) ?_
  apply Exists.intro
  refine ⟨fun x0 => ?_, fun x1 x2 => ?_⟩
  · simp only [List.take_succ_cons, List.take_zero]
    (repeat (go_big_quiet_step ((first | (go_at_call 14; exact plus_of (alive_calls _)) | (go_at_call 10; exact plus_of (lof_calls _ _ _ _)) | (go_at_call 9; exact plus_of (lto_calls _ _ _ _ _ _ _)) | (go_at_call 15; exact plus_of (bcheck_calls _ _ _ _ _ _ _)) | (go_at_call 16; exact plus_of (bholds_calls _ _ _ _ _ _ _ _ _ _ )) | (go_at_call 11; exact plus_of (bjoin_calls _ _ _ _ _ _ _ _ _ _ _ _ _ ))))))
    exact wpQuiet_nil rfl
  simp only [List.drop_succ_cons, List.drop_zero]
  go_wp2_with (first | (go_at_call 10; refine (plus_post (lof_calls _ _ _ _)).mono ?_; rintro e w' ⟨rfl, nx, rfl⟩) | (go_at_call 9; refine (plus_post (lto_calls _ _ _ _ _ _ _)).mono ?_; rintro e w' ⟨rfl, nx, rfl⟩) | (go_at_call 12; refine (plus_post (bturned_calls _ _ _ _ _ _ _ _ _ _ _ _ _ _ _ _ )).mono ?_; rintro e w' ⟨rfl, nx, rfl⟩) | (go_at_call_of 13 (Value.slice none 0 0); refine (plus_post (of_nil _)).mono ?_; rintro e w' ⟨rfl, nx, rfl⟩) | (go_at_call 13; refine (plus_post (of_far _ _ ⟨by simp [go_sem]; try omega, fun k hk => by match k, hk with | 0, _ => simp [go_sem, farP]⟩)).mono ?_; rintro e w' ⟨rfl, nx, rfl⟩))
  refine region_plus (by kernel_rfl) (by kernel_rfl) ?_
  (repeat (go_big_quiet_step ((first | (go_at_call 14; exact plus_of (alive_calls _)) | (go_at_call 10; exact plus_of (lof_calls _ _ _ _)) | (go_at_call 9; exact plus_of (lto_calls _ _ _ _ _ _ _)) | (go_at_call 15; exact plus_of (bcheck_calls _ _ _ _ _ _ _)) | (go_at_call 16; exact plus_of (bholds_calls _ _ _ _ _ _ _ _ _ _ )) | (go_at_call 11; exact plus_of (bjoin_calls _ _ _ _ _ _ _ _ _ _ _ _ _ ))))))
  refine wpQuiet_nil ?_
  rintro _ ⟨x2, rfl⟩
  go_wp2
  go_ret
  exact ⟨rfl, by with_reducible repeat (first | exact Below.refl _ _ | apply ba | apply bp | apply bd | apply bn)⟩

set_option maxRecDepth 100000 in
theorem boxNames_lifted (os : Os) (started : os.Started) (H : Type) (enc : TypeId × Value → H) :
    ReturnsInHanded {} Try.checked os 3 .any (Rows.boxNamesSpec.pre6 enc Try.prog Try.f3 Rows.boxNamesRow.domain false) (Rows.boxNamesSpec.post enc Try.prog Try.f3 false true false false) := by
  refine returnsInHanded_of_change (C := Try.checked) own started (by kernel_rfl) Try.func3
    (ChangeSpec.witness6 (enc := enc) (C := Try.checked) false ⟨#[], #[], []⟩ 8 (by kernel_rfl) (by kernel_rfl) (by kernel_rfl) (by kernel_rfl)) ?_
  intro W base args ds gs before hval0 hW hcnd _
  have hval : ∀ (j : Nat) t v, Try.f3.params[j]? = some t → args[j]? = some v → Value.okWide Try.prog W .any base t v := hval0
  have hW' := hW
  obtain ⟨p, q, hA0, hV, rfl, hfz, hnd⟩ := hW
  have hA : DataW.TrodAll enc Try.prog W 0 (fun _ => true) true Try.f3.params.toList args.toList ds p := hA0
  rw [Try.params3] at hA hval
  obtain ⟨hargs, rfl, rfl⟩ := trodAll_nil hA
  obtain rfl : args = #[] := by cases args; simp_all
  refine (boxNames_walk   W ).mono fun e W' ⟨he, hb⟩ => ?_
  exact ⟨_, he, law_post laidOut Try.underlying4 rfl (by kernel_rfl) (by kernel_rfl) (fun ds h => match ds, h with | [], _ => rfl) hW' hb⟩

theorem boxNames_holds : Rows.BoxNamesSaid :=
  OpenClaim.holds_of_wide 3 Try.f3 rfl rfl rfl rfl rfl rfl rfl ⟨rfl, rfl, rfl, rfl, rfl⟩ rfl rfl rfl rfl rfl (by kernel_rfl) Try.func3 (by kernel_rfl)
    (of_decide_eq_true (by kernel_rfl)) (by unfold Func.isWrapper; first | (rw [if_pos (by decide +kernel)]; kernel_rfl) | (rw [if_neg (by decide +kernel)]; exact ⟨rfl, rfl⟩))
    (fun os started H enc _ => boxNames_lifted os started H enc)
#print axioms boxNames_holds
end Go.Proofs.Ytondjoilcpcneaa
