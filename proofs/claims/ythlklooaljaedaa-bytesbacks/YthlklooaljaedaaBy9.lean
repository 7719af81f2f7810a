/- What is, bad and alive give. -/
import Derived.Test.YthlklooaljaedaaBy7
import Derived.Test.YthlklooaljaedaaMeshMath2
namespace Go.Proofs.Ythlklooaljaedaa
open Go.RowKit Go.ChangeShapes Go.WideShapes Go.ChangeAt
set_option linter.unusedSimpArgs false
set_option linter.unusedVariables false
attribute [local go_sem] plus_size plus_drew dn_set dn_alloc dn_plus plus_dn cell_plus frozen_plus set_plus cell_alloc frozen_alloc set_alloc

theorem is_any {n : Int} {wl : List Int} {ao : Option Addr} {m cap : Nat} {w : World} (h : numL n = (wl, 0)) (hl : Lay fU w ao m wl) :
    Calls Try.prog 21 #[.int .i64 n, .slice ao m cap] w fun e w' => e = .returned (.bool true) ∧ ∃ y, w' = plus w y := by
  go_enter Try.func21, Try.ntmps21
  go_wp2_with (go_at_call 10; refine (num_calls _ _).mono ?_; rw [h]; rintro e w1 ⟨a2, c2, rfl, hw1, ox⟩; have k1 := run_conv_lay (P := Try.prog) (w := w1) (src := 22) (dst := 9) (cap := c2) Try.underlying22 Try.underlying5 Try.underlying9 (ox.lay); have k2 := run_conv_lay (P := Try.prog) (w := w1) (src := 22) (dst := 9) (cap := cap) Try.underlying22 Try.underlying5 Try.underlying9 (hl.ex hw1))
  go_ret
  exact ⟨rfl, hw1⟩

theorem bad_any {l : List Int} {ao : Option Addr} {m cap : Nat} {w : World} (h : readL l = (0, 0, 8)) (hl : Lay fU w ao m l) (hb : Byt l) (hm : m ≤ 9223372036854775807) :
    Calls Try.prog 12 #[.slice ao m cap] w fun e w' => e = .returned (.bool true) ∧ w' = w := by
  go_enter Try.func12, Try.ntmps12
  go_wp2_with (go_at_call 14; refine (read_calls _ _ _ l _ hl hb hm).mono ?_; rintro e w' ⟨rfl, ew⟩; obtain rfl := ew.symm; rw [h])
  go_ret
  exact ⟨rfl, rfl⟩

theorem num_0 : numL 0 = ([0], 0) := by simp [numL, canB, bytesOf, rk, enc]
theorem num_1 : numL (-1) = ([1], 0) := by simp [numL, canB, bytesOf, rk, enc]
theorem num_63 : numL 63 = ([126], 0) := by simp [numL, canB, bytesOf, rk, enc]
theorem num_64 : numL (-64) = ([127], 0) := by simp [numL, canB, bytesOf, rk, enc]
theorem num_65 : numL 64 = ([128, 1], 0) := by simp [numL, canB, bytesOf, rk, enc]

set_option maxHeartbeats 4000000 in
theorem alive8_calls (w : World) : Calls Try.prog 11 #[] w fun e w' => e = .returned (.bool true) ∧ ∃ y, w' = plus w y := by
  go_enter Try.func11, Try.ntmps11
  go_wp2_with (go_at_call 21; refine (is_any (by first | exact num_0 | exact num_1 | exact num_63 | exact num_64 | exact num_65) (by exact ⟨rfl, .inr ⟨_, 0, rfl, by simp [go_sem]; try omega, fun jj u hu => by match jj, hu with | 0, hu => (simp [fU] at hu <;> (subst hu; simp [go_sem, ↓IntWalk.iteOmega])) | 1, hu => (simp [fU] at hu <;> (subst hu; simp [go_sem, ↓IntWalk.iteOmega])) | jj + 2, hu => simp [fU] at hu⟩⟩)).mono ?_; rintro e w' ⟨rfl, y, rfl⟩)
  go_ret
  exact ⟨rfl, (by with_reducible repeat (first | exact ex_refl _ | exact ex_more8 | apply ex_alloc | apply ex_plus | apply ex_drew | apply ex_drewN))⟩

end Go.Proofs.Ythlklooaljaedaa
