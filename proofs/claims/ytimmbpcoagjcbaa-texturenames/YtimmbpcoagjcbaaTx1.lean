/- What sideMayBe, placeMayBe, Check, Checks and Great give. -/
import Derived.Test.YtimmbpcoagjcbaaProg
import Derived.Test.YtimmbpcoagjcbaaTxLay
namespace Go.Proofs.Ytimmbpcoagjcbaa
open Go.RowKit Go.ChangeShapes Go.WideShapes Go.ChangeAt
set_option linter.unusedSimpArgs false
set_option linter.unusedVariables false
attribute [local go_sem] plus_size plus_drew dn_set dn_alloc dn_plus plus_dn cell_plus frozen_plus set_plus cell_alloc frozen_alloc set_alloc

theorem wrap_le9 {n : Int} (h : 0 ≤ n ∧ n ≤ 9223372036854775807) : IntKind.i64.wrap n = n := by
  simp [IntKind.wrap, IntKind.bits, IntKind.signed]
  omega
theorem ex_more9 {T : World} {x : List More} {d : Nat} : ∃ y, plus T [⟨blocks x, d⟩] = plus (plus T x) y := ⟨[⟨#[], d⟩], by simp [plus, blocks, draws]⟩
theorem tside_calls (n : Int) (w : World) : Calls Try.prog 21 #[.int .i64 n] w fun e w' => e = .returned (.bool (side n)) ∧ w' = w := by
  by_cases h0 : 1 ≤ n
  · by_cases h1 : n ≤ 16
    · rw [show side n = true by simp [side, h0, h1]]
      go_enter Try.func21, Try.ntmps21
      go_wp2
      go_ret
      exact ⟨rfl, rfl⟩
    · rw [show side n = false by simp [side, h1]]
      go_enter Try.func21, Try.ntmps21
      go_wp2
      go_ret
      exact ⟨rfl, rfl⟩
  · rw [show side n = false by simp [side, h0]]
    go_enter Try.func21, Try.ntmps21
    go_wp2
    go_ret
    exact ⟨rfl, rfl⟩

theorem tplace_calls (n : Int) (w : World) : Calls Try.prog 20 #[.int .i64 n] w fun e w' => e = .returned (.bool (plc n)) ∧ w' = w := by
  by_cases h0 : 0 ≤ n
  · by_cases h1 : n ≤ 255
    · rw [show plc n = true by simp [plc, h0, h1]]
      go_enter Try.func20, Try.ntmps20
      go_wp2
      go_ret
      exact ⟨rfl, rfl⟩
    · rw [show plc n = false by simp [plc, h1]]
      go_enter Try.func20, Try.ntmps20
      go_wp2
      go_ret
      exact ⟨rfl, rfl⟩
  · rw [show plc n = false by simp [plc, h0]]
    go_enter Try.func20, Try.ntmps20
    go_wp2
    go_ret
    exact ⟨rfl, rfl⟩

theorem tside_is {n : Int} {b : Bool} {w : World} (h : side n = b) : Calls Try.prog 21 #[.int .i64 n] w fun e w' => e = .returned (.bool b) ∧ w' = w := h ▸ tside_calls n w

theorem tplace_is {n : Int} {b : Bool} {w : World} (h : plc n = b) : Calls Try.prog 20 #[.int .i64 n] w fun e w' => e = .returned (.bool b) ∧ w' = w := h ▸ tplace_calls n w

theorem tcheck_calls (W H : Int) (ao : Option Addr) (n cap : Nat) (w : World) : Calls Try.prog 10 #[.agg #[.int .i64 W, .int .i64 H, .slice ao n cap]] w fun e w' => e = .returned (.int .i64 (errT W H n)) ∧ ∃ y, w' = plus w y := by
  cases hw : side W
  · rw [show errT W H n = 8 by rw [errT, mayT_side hw]; rfl]
    go_enter Try.func10, Try.ntmps10
    go_wp2_with (go_at_call 21; refine (tside_is (by first | exact hw | exact hh)).mono ?_; rintro e w' ⟨rfl, ew⟩; obtain rfl := ew.symm)
    go_ret
    exact ⟨rfl, (by with_reducible repeat (first | exact ex_refl _ | exact ex_more9 | apply ex_alloc | apply ex_plus | apply ex_drew | apply ex_drewN))⟩
  cases hh : side H
  · rw [show errT W H n = 8 by rw [errT, mayT_side2 hh]; rfl]
    go_enter Try.func10, Try.ntmps10
    go_wp2_with (go_at_call 21; refine (tside_is (by first | exact hw | exact hh)).mono ?_; rintro e w' ⟨rfl, ew⟩; obtain rfl := ew.symm)
    go_ret
    exact ⟨rfl, (by with_reducible repeat (first | exact ex_refl _ | exact ex_more9 | apply ex_alloc | apply ex_plus | apply ex_drew | apply ex_drewN))⟩
  have b := mul_le16 (side_iff.1 hw) (side_iff.1 hh)
  have ew : IntKind.i64.wrap (W * H) = W * H := wrap_le9 (by omega)
  have ew2 : wrap64 (W * H) = W * H := by rw [IntWalk.wrap64_in] <;> omega
  by_cases hn : (n : Int) = W * H
  · rw [show errT W H n = 0 by rw [errT, mayT_yes hw hh hn]; rfl]
    have hb : ((n : Int) == W * H) = true := by rw [beq_iff_eq]; exact hn
    go_enter Try.func10, Try.ntmps10
    go_wp2_with (go_at_call 21; refine (tside_is (by first | exact hw | exact hh)).mono ?_; rintro e w' ⟨rfl, ew⟩; obtain rfl := ew.symm)
    go_ret
    exact ⟨rfl, (by with_reducible repeat (first | exact ex_refl _ | exact ex_more9 | apply ex_alloc | apply ex_plus | apply ex_drew | apply ex_drewN))⟩
  · rw [show errT W H n = 8 by rw [errT, mayT_len hn]; rfl]
    have hb : ((n : Int) == W * H) = false := by rw [beq_eq_false_iff_ne]; exact hn
    go_enter Try.func10, Try.ntmps10
    go_wp2_with (go_at_call 21; refine (tside_is (by first | exact hw | exact hh)).mono ?_; rintro e w' ⟨rfl, ew⟩; obtain rfl := ew.symm)
    go_ret
    exact ⟨rfl, (by with_reducible repeat (first | exact ex_refl _ | exact ex_more9 | apply ex_alloc | apply ex_plus | apply ex_drew | apply ex_drewN))⟩

end Go.Proofs.Ytimmbpcoagjcbaa
