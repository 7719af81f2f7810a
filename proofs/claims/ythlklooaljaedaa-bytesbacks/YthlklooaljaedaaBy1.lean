/- What mayBeWritten, In, the ranks and back give. -/
import Derived.Test.YthlklooaljaedaaProg
import Derived.Test.YthlklooaljaedaaByBits
namespace Go.Proofs.Ythlklooaljaedaa
open Go.RowKit Go.ChangeShapes Go.WideShapes Go.ChangeAt
set_option linter.unusedSimpArgs false
set_option linter.unusedVariables false
attribute [local go_sem] plus_size plus_drew dn_set dn_alloc dn_plus plus_dn cell_plus frozen_plus set_plus cell_alloc frozen_alloc set_alloc

theorem wrap_le8 {n : Int} (h : 0 ≤ n ∧ n ≤ 9223372036854775807) : IntKind.i64.wrap n = n := by
  simp [IntKind.wrap, IntKind.bits, IntKind.signed]
  omega
theorem ex_more8 {T : World} {x : List More} {d : Nat} : ∃ y, plus T [⟨blocks x, d⟩] = plus (plus T x) y := ⟨[⟨#[], d⟩], by simp [plus, blocks, draws]⟩

theorem maybe_calls (n : Int) (w : World) : Calls Try.prog 20 #[.int .i64 n] w fun e w' => e = .returned (.bool (canB n)) ∧ w' = w := by
  by_cases h0 : -1099511627776 ≤ n
  · by_cases h1 : n ≤ 1099511627776
    · rw [show canB n = true by rw [canB_iff]; exact ⟨h0, h1⟩]
      go_enter Try.func20, Try.ntmps20
      go_wp2
      go_ret
      exact ⟨rfl, rfl⟩
    · rw [show canB n = false by simp [canB, h1]]
      go_enter Try.func20, Try.ntmps20
      go_wp2
      go_ret
      exact ⟨rfl, rfl⟩
  · rw [show canB n = false by simp [canB, h0]]
    go_enter Try.func20, Try.ntmps20
    go_wp2
    go_ret
    exact ⟨rfl, rfl⟩

theorem rin8_calls (n : Int) (w : World) : Calls Try.prog 22 #[.int .i64 n] w fun e w' => e = .returned (.bool (canB n)) ∧ w' = w := by
  by_cases h0 : -1099511627776 ≤ n
  · by_cases h1 : n ≤ 1099511627776
    · rw [show canB n = true by rw [canB_iff]; exact ⟨h0, h1⟩]
      go_enter Try.func22, Try.ntmps22
      go_wp2
      go_ret
      exact ⟨rfl, rfl⟩
    · rw [show canB n = false by simp [canB, h1]]
      go_enter Try.func22, Try.ntmps22
      go_wp2
      go_ret
      exact ⟨rfl, rfl⟩
  · rw [show canB n = false by simp [canB, h0]]
    go_enter Try.func22, Try.ntmps22
    go_wp2
    go_ret
    exact ⟨rfl, rfl⟩

theorem rankOf_calls (n : Int) (w : World) (hn : canB n = true) : Calls Try.prog 25 #[.int .i64 n] w fun e w' => e = .returned (.int .i64 (rk n : Nat)) ∧ w' = w := by
  rw [canB_iff] at hn
  go_enter Try.func25, Try.ntmps25
  go_wp2
  go_ret
  exact ⟨by rw [← rk_bits hn.1 hn.2]; rfl, rfl⟩

theorem ofRank_calls (r : Nat) (w : World) (hr : r < 4398046511104) : Calls Try.prog 24 #[.int .i64 r] w fun e w' => e = .returned (.int .i64 (un r)) ∧ w' = w := by
  go_enter Try.func24, Try.ntmps24
  go_wp2
  go_ret
  exact ⟨by rw [← un_bits hr]; rfl, rfl⟩

theorem rrank_calls (n : Int) (w : World) (hn : canB n = true) : Calls Try.prog 26 #[.int .i64 n] w fun e w' => e = .returned (.int .i64 (rk n : Nat)) ∧ w' = w := by
  rw [canB_iff] at hn
  by_cases h0 : 0 ≤ n
  · have e1 := rk_pos h0
    rw [e1]
    have e2 : IntKind.i64.wrap (2 * n) = 2 * n := by rw [IntKind.wrap_i64]; omega
    go_enter Try.func26, Try.ntmps26
    go_wp2
    go_ret
    exact ⟨rfl, rfl⟩
  · have e1 := rk_neg h0
    rw [e1]
    have e2 : IntKind.i64.wrap (2 * n) = 2 * n := by rw [IntKind.wrap_i64]; omega
    have e3 : IntKind.i64.wrap (-1 - 2 * n) = -1 - 2 * n := by rw [IntKind.wrap_i64]; omega
    go_enter Try.func26, Try.ntmps26
    go_wp2
    go_ret
    exact ⟨rfl, rfl⟩

end Go.Proofs.Ythlklooaljaedaa
