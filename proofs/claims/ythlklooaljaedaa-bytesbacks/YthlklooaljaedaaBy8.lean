/- What Numbers gives of a list and itself. -/
import Derived.Test.YthlklooaljaedaaBy7
import Derived.Test.YthlklooaljaedaaMeshMath2
namespace Go.Proofs.Ythlklooaljaedaa
open Go.RowKit Go.ChangeShapes Go.WideShapes Go.ChangeAt
set_option linter.unusedSimpArgs false
set_option linter.unusedVariables false
attribute [local go_sem] plus_size plus_drew dn_set dn_alloc dn_plus plus_dn cell_plus frozen_plus set_plus cell_alloc frozen_alloc set_alloc

set_option maxHeartbeats 4000000 in
theorem numbers_calls (ao bo : Option Addr) (n cap cap2 : Nat) (l : List Int) (w : World) (hl : Lay fI w ao n l) (h2 : Lay fI w bo n l) (hn : n ≤ 9223372036854775807) :
    Calls Try.prog 18 #[.slice ao n cap, .slice bo n cap2] w fun e w' => e = .returned (.bool true) ∧ ∃ y, w' = plus w y := by
  have hlen := hl.len
  go_enter Try.func18, Try.ntmps18
  go_wp2
  go_loopw [5] (fun i wr => ∃ k : Nat, k ≤ n ∧ i = .int .i64 k ∧ ∃ y, wr = plus w y) (fun i _ => n - (intOf i).toNat)
  case atStart => exact ⟨0, Nat.zero_le _, rfl, (by with_reducible repeat (first | exact ex_refl _ | exact ex_more8 | apply ex_alloc | apply ex_plus | apply ex_drew | apply ex_drewN))⟩
  case round =>
    obtain ⟨k, hk, rfl, y, rfl⟩ := hrel
    by_cases hkl : k < n
    · obtain ⟨g, off, rfl, hg, hcell⟩ := hl.some (by omega)
      obtain ⟨g2, off2, rfl, hg2, hcell2⟩ := h2.some (by omega)
      have c0 := cellI hlen hcell hkl
      have c1 := cellI hlen hcell2 hkl
      have ik : (k : Int) < (n : Int) := by omega
      go_wp2
      refine region_plus (by kernel_rfl) (by kernel_rfl) ?_
      (repeat (go_big_quiet_step (fail)))
      refine wpQuiet_nil ?_
      rintro _ ⟨x2, rfl⟩
      go_wp2
      go_roundw
      case rel => exact ⟨k + 1, by omega, by go_num, (by with_reducible repeat (first | exact ex_refl _ | exact ex_more8 | apply ex_alloc | apply ex_plus | apply ex_drew | apply ex_drewN))⟩
      case measure => simp [intOf]; omega
    · have ik : ¬ (k : Int) < (n : Int) := by omega
      go_wp2
      go_ret
      exact ⟨rfl, (by with_reducible repeat (first | exact ex_refl _ | exact ex_more8 | apply ex_alloc | apply ex_plus | apply ex_drew | apply ex_drewN))⟩

theorem numbers_any {ao bo : Option Addr} {n m cap cap2 : Nat} {l : List Int} {w : World} (hl : Lay fI w ao n l) (h2 : Lay fI w bo m l) (hn : n ≤ 9223372036854775807) :
    Calls Try.prog 18 #[.slice ao n cap, .slice bo m cap2] w fun e w' => e = .returned (.bool true) ∧ ∃ y, w' = plus w y := by
  obtain rfl : n = m := by rw [← hl.len, h2.len]
  exact numbers_calls ao bo n cap cap2 l w hl h2 hn

end Go.Proofs.Ythlklooaljaedaa
