/- BytesNames is proved: the limits and errors have their numbers, and the chapter's examples hold: the call returns true. No condition. -/
import Derived.Test.YthlklooaljaedaaBy9
import Derived.Test.YthlklooaljaedaaBy8
import Derived.Test.YthlklooaljaedaaLaw
import Derived.Deep.DeepCutAuto
namespace Go.Proofs.Ythlklooaljaedaa
open Go.RowKit Go.ChangeShapes Go.WideShapes Go.ChangeAt
set_option linter.unusedSimpArgs false
set_option linter.unusedVariables false
attribute [local go_sem] plus_size plus_drew dn_set dn_alloc dn_plus plus_dn cell_plus frozen_plus set_plus cell_alloc frozen_alloc set_alloc

theorem list_1 : listL [1, -1] = ([4, 2, 1], 0) := by simp [listL, canB, bytesOf, rk, enc]
theorem reads_2 : readsL [4, 2, 1, 9] 2 = ([1, -1], 3, 0) := by simp [readsL, badL, readL, rd, getsL, getL, un]
theorem reads_1 : readsL [4, 2, 1, 9] 1 = ([], 0, 8) := by simp [readsL, badL, readL, rd, getsL, getL, un]
theorem reads_0 : readsL [] (-1) = ([], 0, 2) := by simp [readsL]
theorem num_big : numL 1099511627777 = ([], 2) := by simp [numL, canB]
theorem read_1 : readL [128, 0] = (0, 0, 8) := by simp [readL, rd]
theorem read_2 : readL [128] = (0, 0, 8) := by simp [readL, rd]
theorem read_3 : readL [] = (0, 0, 8) := by simp [readL, rd]
theorem byt_lit {l : List Int} (h : (l.all fun x => decide (0 ≤ x) && decide (x < 256)) = true) : Byt l := by
  intro x hx
  have := List.all_eq_true.1 h x hx
  simp only [Bool.and_eq_true, decide_eq_true_eq] at this
  exact this

set_option maxRecDepth 100000 in
set_option maxHeartbeats 4000000 in
theorem bytesNames_walk (w : World) : Calls Try.prog 3 #[] w fun e w' => e = .returned (.bool true) ∧ Below w.heap.size w w' := by
  go_enter Try.func3, Try.ntmps3
  go_upto_region 2 with (go_at_call 8; refine (list_calls _ _ _ [1, -1] _ (by exact ⟨rfl, .inr ⟨_, 0, rfl, by simp [go_sem]; try omega, fun jj u hu => by match jj, hu with | 0, hu => (simp [fI] at hu <;> (subst hu; simp [go_sem, ↓IntWalk.iteOmega])) | 1, hu => (simp [fI] at hu <;> (subst hu; simp [go_sem, ↓IntWalk.iteOmega])) | jj + 2, hu => simp [fI] at hu⟩⟩) (by decide)).mono ?_; rw [list_1]; rintro e w1 ⟨a1, c1, rfl, hw1, ox⟩)
  go_upto_region 3 with (go_at_call 9; refine (readList_calls _ _ _ [4, 2, 1, 9] 2 _ (by exact ⟨rfl, .inr ⟨_, 0, rfl, by simp [go_sem]; try omega, fun jj u hu => by match jj, hu with | 0, hu => (simp [fU] at hu <;> (subst hu; simp [go_sem, ↓IntWalk.iteOmega])) | 1, hu => (simp [fU] at hu <;> (subst hu; simp [go_sem, ↓IntWalk.iteOmega])) | 2, hu => (simp [fU] at hu <;> (subst hu; simp [go_sem, ↓IntWalk.iteOmega])) | 3, hu => (simp [fU] at hu <;> (subst hu; simp [go_sem, ↓IntWalk.iteOmega])) | jj + 4, hu => simp [fU] at hu⟩⟩) (byt_lit (by decide)) (by decide) (by decide)).mono ?_; rw [reads_2]; rintro e w2 ⟨a2, ca2, rfl, hw2, oy⟩)
  go_upto_region 4 with (go_at_call 9; refine (readList_calls _ _ _ [4, 2, 1, 9] 1 _ (by exact ⟨rfl, .inr ⟨_, 0, rfl, by simp [go_sem]; try omega, fun jj u hu => by match jj, hu with | 0, hu => (simp [fU] at hu <;> (subst hu; simp [go_sem, ↓IntWalk.iteOmega])) | 1, hu => (simp [fU] at hu <;> (subst hu; simp [go_sem, ↓IntWalk.iteOmega])) | 2, hu => (simp [fU] at hu <;> (subst hu; simp [go_sem, ↓IntWalk.iteOmega])) | 3, hu => (simp [fU] at hu <;> (subst hu; simp [go_sem, ↓IntWalk.iteOmega])) | jj + 4, hu => simp [fU] at hu⟩⟩) (byt_lit (by decide)) (by decide) (by decide)).mono ?_; rw [reads_1]; rintro e w3 ⟨a3, ca3, rfl, hw3, o3⟩)
  go_upto_region 5 with (go_at_call 10; refine (num_calls _ _).mono ?_; rw [num_big]; rintro e w4 ⟨a4, c4, rfl, hw4, o4⟩)
  go_upto_region 6 with (go_at_call 9; refine (readList_calls _ _ _ [] (-1) _ (by exact Lay.nil) (byt_lit (by decide)) (by decide) (by decide)).mono ?_; rw [reads_0]; rintro e w5 ⟨a5, c5, rfl, hw5, oo⟩)
  have k1 := run_conv_lay (P := Try.prog) (w := w5) (src := 22) (dst := 9) (cap := c1) (n := 3) Try.underlying22 Try.underlying5 Try.underlying9 (ox.lay.ex (by with_reducible repeat (first | exact ex_refl _ | exact ex_more8 | apply ex_alloc | apply ex_plus | apply ex_drew | apply ex_drewN | (apply ex_on; assumption))))
  have k2 := run_conv_lay (P := Try.prog) (w := (w5.alloc (.cells #[.int .u8 4, .int .u8 2, .int .u8 1] 5))) (src := 22) (dst := 9) (ao := some ⟨w5.heap.size, 0, none⟩) (n := 3) (cap := 3) (l := [4, 2, 1]) Try.underlying22 Try.underlying5 Try.underlying9 ⟨rfl, .inr ⟨_, 0, rfl, by simp [go_sem]; try omega, fun jj u hu => by match jj, hu with | 0, hu => (simp [fU] at hu <;> (subst hu; simp [go_sem, ↓IntWalk.iteOmega])) | 1, hu => (simp [fU] at hu <;> (subst hu; simp [go_sem, ↓IntWalk.iteOmega])) | 2, hu => (simp [fU] at hu <;> (subst hu; simp [go_sem, ↓IntWalk.iteOmega])) | jj + 3, hu => simp [fU] at hu⟩⟩
  obtain ⟨gm, om, rfl, hgm, hcm⟩ := (oy.lay).some (by decide)
  have m0 : w5.cell? ⟨gm, om, none⟩ = some (.int .i64 1) := cell_ex (w' := w5) (by with_reducible repeat (first | exact ex_refl _ | exact ex_more8 | apply ex_alloc | apply ex_plus | apply ex_drew | apply ex_drewN | (apply ex_on; assumption))) (cellI (l := [1, -1]) rfl hcm (k := 0) (by decide))
  have m1 : w5.cell? ⟨gm, om + 1, none⟩ = some (.int .i64 (-1)) := cell_ex (w' := w5) (by with_reducible repeat (first | exact ex_refl _ | exact ex_more8 | apply ex_alloc | apply ex_plus | apply ex_drew | apply ex_drewN | (apply ex_on; assumption))) (cellI (l := [1, -1]) rfl hcm (k := 1) (by decide))
  have hg5 := cell_lt m0
  go_upto_region 7 with fail
  go_wp2_with (first | (go_at_call 11; refine (alive8_calls _).mono ?_; rintro e w6 ⟨rfl, y6, rfl⟩) | (first | (go_at_call 12; refine (bad_any (l := [128, 0]) (by first | exact read_1 | exact read_2 | exact read_3) (by exact ⟨rfl, .inr ⟨_, 0, rfl, by simp [go_sem]; try omega, fun jj u hu => by match jj, hu with | 0, hu => (simp [fU] at hu <;> (subst hu; simp [go_sem, ↓IntWalk.iteOmega])) | 1, hu => (simp [fU] at hu <;> (subst hu; simp [go_sem, ↓IntWalk.iteOmega])) | jj + 2, hu => simp [fU] at hu⟩⟩) (byt_lit (by decide)) (by decide)).mono ?_; rintro e w7 ⟨rfl, ew⟩; obtain rfl := ew.symm) | (go_at_call 12; refine (bad_any (l := [128]) (by first | exact read_1 | exact read_2 | exact read_3) (by exact ⟨rfl, .inr ⟨_, 0, rfl, by simp [go_sem]; try omega, fun jj u hu => by match jj, hu with | 0, hu => (simp [fU] at hu <;> (subst hu; simp [go_sem, ↓IntWalk.iteOmega])) | jj + 1, hu => simp [fU] at hu⟩⟩) (byt_lit (by decide)) (by decide)).mono ?_; rintro e w7 ⟨rfl, ew⟩; obtain rfl := ew.symm) | (go_at_call 12; refine (bad_any (l := []) (by first | exact read_1 | exact read_2 | exact read_3) (by exact Lay.nil) (byt_lit (by decide)) (by decide)).mono ?_; rintro e w7 ⟨rfl, ew⟩; obtain rfl := ew.symm)))
  go_ret
  exact ⟨rfl, below_ex (by with_reducible repeat (first | exact ex_refl _ | exact ex_more8 | apply ex_alloc | apply ex_plus | apply ex_drew | apply ex_drewN | (apply ex_on; assumption)))⟩

set_option maxRecDepth 100000 in
theorem bytesNames_lifted (os : Os) (started : os.Started) (H : Type) (enc : TypeId × Value → H) :
    ReturnsInHanded {} Try.checked os 3 .any (Rows.bytesNamesSpec.pre6 enc Try.prog Try.f3 Rows.bytesNamesRow.domain false) (Rows.bytesNamesSpec.post enc Try.prog Try.f3 false true false false) := by
  refine returnsInHanded_of_change (C := Try.checked) own started (by kernel_rfl) Try.func3
    (ChangeSpec.witness6 (enc := enc) (C := Try.checked) false ⟨#[], #[], []⟩ 8 (by kernel_rfl) (by kernel_rfl) (by kernel_rfl) (by kernel_rfl)) ?_
  intro W base args ds gs before hval0 hW hcnd _
  have hval : ∀ (j : Nat) t v, Try.f3.params[j]? = some t → args[j]? = some v → Value.okWide Try.prog W .any base t v := hval0
  have hW' := hW
  obtain ⟨p, q, hA0, hV, rfl, hfz, hnd⟩ := hW
  have hA : DataW.TrodAll enc Try.prog W 0 (fun _ => true) true Try.f3.params.toList args.toList ds p := hA0
  rw [Try.params3] at hA hval
  obtain ⟨hargs, rfl, rfl⟩ := trodAll_nil hA
  obtain rfl : args = #[] := by cases args; simp_all
  refine (bytesNames_walk   W ).mono fun e W' ⟨he, hb⟩ => ?_
  exact ⟨_, he, law_post laidOut Try.underlying4 rfl (by kernel_rfl) (by kernel_rfl) (fun ds h => match ds, h with | [], _ => rfl) hW' hb⟩

theorem bytesNames_holds : Rows.BytesNamesSaid :=
  OpenClaim.holds_of_wide 3 Try.f3 rfl rfl rfl rfl rfl rfl rfl ⟨rfl, rfl, rfl, rfl, rfl⟩ rfl rfl rfl rfl rfl (by kernel_rfl) Try.func3 (by kernel_rfl)
    (of_decide_eq_true (by kernel_rfl)) (by unfold Func.isWrapper; first | (rw [if_pos (by decide +kernel)]; kernel_rfl) | (rw [if_neg (by decide +kernel)]; exact ⟨rfl, rfl⟩))
    (fun os started H enc _ => bytesNames_lifted os started H enc)
#print axioms bytesNames_holds
end Go.Proofs.Ythlklooaljaedaa
