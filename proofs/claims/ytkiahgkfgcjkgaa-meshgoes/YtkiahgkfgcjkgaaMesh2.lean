/- What mesh.stripOf gives. -/
import Derived.Test.YtkiahgkfgcjkgaaMesh1
namespace Go.Proofs.Ytkiahgkfgcjkgaa
open Go.RowKit Go.ChangeShapes Go.WideShapes Go.ChangeAt
set_option linter.unusedSimpArgs false
set_option linter.unusedVariables false
attribute [local go_sem] plus_size plus_drew dn_set dn_alloc dn_plus plus_dn cell_plus frozen_plus set_plus cell_alloc frozen_alloc set_alloc

set_option maxHeartbeats 2000000 in
theorem stripOf_calls (ao : Option Addr) (n cap : Nat) (ix : List Int) (w : World) (hl : Lay fI w ao n ix) (hn : n ≤ 10000) :
    Calls Try.prog 39 #[.slice ao n cap] w fun e w' => ∃ ao' cap', e = .returned (.slice ao' (n - 2) cap') ∧ (∃ y, w' = plus w y) ∧ Own 34 3 fV w w' ao' (n - 2) cap' (firsts (stripT ix) (n - 2)) := by
  go_enter Try.func39, Try.ntmps39
  go_wp2
  go_loopw [3, 4] (fun v i wr => ∃ (k : Nat) (ao' : Option Addr) (cap' : Nat), k ≤ n - 2 ∧ i = .int .i64 (k : Nat) ∧ v = .slice ao' k cap' ∧ (∃ y, wr = plus w y) ∧ Own 34 3 fV w wr ao' k cap' (firsts (stripT ix) k)) (fun _ i _ => n - (intOf i).toNat)
  case atStart => exact ⟨0, none, 0, by omega, rfl, rfl, (by with_reducible repeat (first | exact ex_refl _ | exact ex_more | apply ex_alloc | apply ex_plus | apply ex_drew | apply ex_drewN)), own_nil⟩
  case round =>
    obtain ⟨k, ao', cap', hk, rfl, rfl, ⟨y, rfl⟩, hown⟩ := hrel
    by_cases hkl : k + 2 < n
    · obtain ⟨g, off, rfl, hg, hcell⟩ := hl.some (by omega)
      have c0 := cellI hl.len hcell (k := k) (by omega)
      have c1 := cellI hl.len hcell (k := k + 1) (by omega)
      have c2 := cellI hl.len hcell (k := k + 2) (by omega)
      have ik0 : (k : Int) < (n : Int) := by omega
      have ik1 : (k : Int) + 1 < (n : Int) := by omega
      have ip1 : (0 : Int) ≤ (k : Int) + 1 := by omega
      have iw1 : IntKind.i64.wrap ((k : Int) + 1) = (k : Int) + 1 := wrap_le (by omega)
      have it1 : ((k : Int) + 1).toNat = k + 1 := by omega
      have ik2 : (k : Int) + 2 < (n : Int) := by omega
      have ip2 : (0 : Int) ≤ (k : Int) + 2 := by omega
      have iw2 : IntKind.i64.wrap ((k : Int) + 2) = (k : Int) + 2 := wrap_le (by omega)
      have it2 : ((k : Int) + 2).toNat = k + 2 := by omega
      go_wp2
      refine region_fresh 15 5 (.cells #[.int .i64 0, .int .i64 0, .int .i64 0] 34) (by kernel_rfl) (by kernel_rfl) rfl (fun _ _ x _ _ h => by cases x <;> exact h) (fun _ _ => by kernel_rfl) ?_
      apply Exists.intro
      refine ⟨fun x0 => ?_, fun x1 x2 => ?_⟩
      · simp only [List.take_succ_cons, List.take_zero]
        (repeat (go_big_quiet_step (fail)))
        exact wpQuiet_nil rfl
      simp only [List.drop_succ_cons, List.drop_zero]
      by_cases np : k % 2 = 1
      · have ie : (k : Int) % 2 = 1 := by omega
        go_wp2_with (at_builtin; (refine wpList_append_lay (T := w) rfl _ _ rfl kinT fV_c fV_1 rfl (by with_reducible repeat (first | exact ex_refl _ | exact ex_more | apply ex_alloc | apply ex_plus | apply ex_drew | apply ex_drewN)) (hown.ex (by with_reducible repeat (first | exact ex_refl _ | exact ex_more | apply ex_alloc | apply ex_plus | apply ex_drew | apply ex_drewN))) rfl (l2 := [stripT ix k]) ⟨rfl, .inr ⟨_, 0, rfl, by simp [go_sem]; try omega, fun jj u hu => by match jj, hu with | 0, hu => (simp [fV, stripT, np] at hu; subst hu; simp [go_sem, ↓IntWalk.iteOmega]) | 1, hu => (simp [fV, stripT, np] at hu; subst hu; simp [go_sem, ↓IntWalk.iteOmega]) | 2, hu => (simp [fV, stripT, np] at hu; subst hu; simp [go_sem, ↓IntWalk.iteOmega]) | jj + 3, hu => simp [fV] at hu⟩⟩ (by omega) (by decide) ?_; intro ao' cap' y' hown'))
        go_roundw
        case rel => exact ⟨k + 1, ao', cap', by omega, by go_num, rfl, ⟨y', rfl⟩, by rw [← firsts_succ]; exact hown'⟩
        case measure => simp [intOf]; omega
      have ie : ¬ (k : Int) % 2 = 1 := by omega
      go_wp2_with (at_builtin; (refine wpList_append_lay (T := w) rfl _ _ rfl kinT fV_c fV_1 rfl (by with_reducible repeat (first | exact ex_refl _ | exact ex_more | apply ex_alloc | apply ex_plus | apply ex_drew | apply ex_drewN)) (hown.ex (by with_reducible repeat (first | exact ex_refl _ | exact ex_more | apply ex_alloc | apply ex_plus | apply ex_drew | apply ex_drewN))) rfl (l2 := [stripT ix k]) ⟨rfl, .inr ⟨_, 0, rfl, by simp [go_sem]; try omega, fun jj u hu => by match jj, hu with | 0, hu => (simp [fV, stripT, np] at hu; subst hu; simp [go_sem, ↓IntWalk.iteOmega]) | 1, hu => (simp [fV, stripT, np] at hu; subst hu; simp [go_sem, ↓IntWalk.iteOmega]) | 2, hu => (simp [fV, stripT, np] at hu; subst hu; simp [go_sem, ↓IntWalk.iteOmega]) | jj + 3, hu => simp [fV] at hu⟩⟩ (by omega) (by decide) ?_; intro ao' cap' y' hown'))
      go_roundw
      case rel => exact ⟨k + 1, ao', cap', by omega, by go_num, by rfl, ⟨y', rfl⟩, by rw [← firsts_succ]; exact hown'⟩
      case measure => simp [intOf]; omega
    · have ik : ¬ (k : Int) + 2 < (n : Int) := by omega
      obtain rfl : k = n - 2 := by omega
      go_wp2
      go_ret
      exact ⟨ao', cap', rfl, ⟨y, rfl⟩, hown⟩

end Go.Proofs.Ytkiahgkfgcjkgaa
