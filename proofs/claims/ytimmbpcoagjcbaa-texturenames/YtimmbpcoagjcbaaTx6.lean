/- What two and alive give. -/
import Derived.Test.YtimmbpcoagjcbaaTx3
import Derived.Test.YtimmbpcoagjcbaaOwn2
namespace Go.Proofs.Ytimmbpcoagjcbaa
open Go.RowKit Go.ChangeShapes Go.WideShapes Go.ChangeAt
set_option linter.unusedSimpArgs false
set_option linter.unusedVariables false
attribute [local go_sem] plus_size plus_drew dn_set dn_alloc dn_plus plus_dn cell_plus frozen_plus set_plus cell_alloc frozen_alloc set_alloc

attribute [local go_sem] eqC_refl

attribute [local go_sem] colc_23

attribute [local go_sem] cole_23

attribute [local go_sem] coln_23

def twoL : List Cl := [⟨255, 0, 0, 255⟩, ⟨0, 0, 255, 255⟩]
theorem two_calls (w : World) : Calls Try.prog 8 #[] w fun e w' => ∃ g, e = .returned (.agg #[.int .i64 2, .int .i64 1, .slice (some ⟨g, 0, none⟩) 2 2]) ∧ (∃ y, w' = plus w y) ∧ Lay fCl w' (some ⟨g, 0, none⟩) 2 twoL := by
  go_enter Try.func8, Try.ntmps8
  go_wp2
  exact bodyPost_ret (v := .agg #[.int .i64 2, .int .i64 1, .slice (some ⟨w.heap.size + 1, 0, none⟩) 2 2]) (by simp [results, Try.results8, go_sem, ↓IntWalk.iteOmega]) rfl ⟨_, rfl, (by with_reducible repeat (first | exact ex_refl _ | exact ex_more9 | apply ex_alloc | apply ex_plus | apply ex_drew | apply ex_drewN)), ⟨rfl, .inr ⟨_, 0, rfl, by simp [go_sem]; try omega, fun jj u hu => by match jj, hu with | 0, hu => (simp [fCl, twoL] at hu <;> (subst hu; simp [go_sem, ↓IntWalk.iteOmega])) | 1, hu => (simp [fCl, twoL] at hu <;> (subst hu; simp [go_sem, ↓IntWalk.iteOmega])) | 2, hu => (simp [fCl, twoL] at hu <;> (subst hu; simp [go_sem, ↓IntWalk.iteOmega])) | 3, hu => (simp [fCl, twoL] at hu <;> (subst hu; simp [go_sem, ↓IntWalk.iteOmega])) | 4, hu => (simp [fCl, twoL] at hu <;> (subst hu; simp [go_sem, ↓IntWalk.iteOmega])) | 5, hu => (simp [fCl, twoL] at hu <;> (subst hu; simp [go_sem, ↓IntWalk.iteOmega])) | 6, hu => (simp [fCl, twoL] at hu <;> (subst hu; simp [go_sem, ↓IntWalk.iteOmega])) | 7, hu => (simp [fCl, twoL] at hu <;> (subst hu; simp [go_sem, ↓IntWalk.iteOmega])) | jj + 8, hu => simp [fCl, twoL] at hu⟩⟩⟩

theorem at_128 : atT 2 1 2 twoL 128 255 = (⟨0, 0, 255, 255⟩, 0) := by rfl
theorem at_0 : atT 2 1 2 twoL 0 9 = (⟨255, 0, 0, 255⟩, 0) := by rfl
theorem at_127 : atT 2 1 2 twoL 127 0 = (⟨255, 0, 0, 255⟩, 0) := by rfl
theorem at_256 : atT 2 1 2 twoL 256 0 = (cl0, 2) := by rfl

set_option maxHeartbeats 2000000 in
theorem alive9_calls (w : World) : Calls Try.prog 9 #[] w fun e w' => e = .returned (.bool true) ∧ ∃ y, w' = plus w y := by
  go_enter Try.func9, Try.ntmps9
  go_wp2_with (first | (go_at_call 8; refine (two_calls _).mono ?_; rintro e w1 ⟨g, rfl, hw1, hl⟩) | (go_at_call 7; refine (tat_is (hl.ex (by with_reducible repeat (first | exact ex_refl _ | exact ex_more9 | apply ex_alloc | apply ex_plus | apply ex_drew | apply ex_drewN | (apply ex_on; assumption)))) (by omega) at_128).mono ?_; rintro e w' ⟨rfl, nx, rfl⟩))
  go_ret
  exact ⟨rfl, (by with_reducible repeat (first | exact ex_refl _ | exact ex_more9 | apply ex_alloc | apply ex_plus | apply ex_drew | apply ex_drewN | (apply ex_on; assumption)))⟩

end Go.Proofs.Ytimmbpcoagjcbaa
