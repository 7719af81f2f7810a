/- What slices.Equal of colours, and Same, give. -/
import Derived.Test.YtimmbpcoagjcbaaTx2
import Derived.Test.YtimmbpcoagjcbaaTxEq
namespace Go.Proofs.Ytimmbpcoagjcbaa
open Go.RowKit Go.ChangeShapes Go.WideShapes Go.ChangeAt
set_option linter.unusedSimpArgs false
set_option linter.unusedVariables false
attribute [local go_sem] plus_size plus_drew dn_set dn_alloc dn_plus plus_dn cell_plus frozen_plus set_plus cell_alloc frozen_alloc set_alloc

attribute [local go_sem] eqC_refl

attribute [local go_sem] colc_23

attribute [local go_sem] cole_23

attribute [local go_sem] coln_23

set_option maxHeartbeats 2000000 in
theorem equalC_calls (ao ao2 : Option Addr) (n n2 cap cap2 : Nat) (l l2 : List Cl) (w : World) (hl : Lay fCl w ao n l) (hl2 : Lay fCl w ao2 n2 l2) (hn : n ≤ 9223372036854775807) (hn2 : n2 ≤ 9223372036854775807) :
    Calls Try.prog 24 #[.slice ao n cap, .slice ao2 n2 cap2] w fun e w' => e = .returned (.bool (sameC l l2)) ∧ ∃ y, w' = plus w y := by
  have hlen := hl.len
  have hlen2 := hl2.len
  by_cases hne : n = n2
  rotate_left
  · rw [show sameC l l2 = false from same_len (by omega)]
    have ine : ¬ (n : Int) = (n2 : Int) := by omega
    have dne : ((n : Int) == (n2 : Int)) = false := by rw [beq_eq_false_iff_ne]; omega
    go_enter Try.func24, Try.ntmps24
    go_wp2
    go_ret
    exact ⟨rfl, (by with_reducible repeat (first | exact ex_refl _ | exact ex_more9 | apply ex_alloc | apply ex_plus | apply ex_drew | apply ex_drewN))⟩
  subst hne
  go_enter Try.func24, Try.ntmps24
  go_wp2
  go_loopw [13] (fun i wr => ∃ k : Nat, k ≤ n ∧ i = .int .i64 k ∧ (∀ j, j < k → eqCl (nth cl0 l j) (nth cl0 l2 j) = true) ∧ ∃ x, wr = plus w x) (fun i _ => n - (intOf i).toNat)
  case atStart => exact ⟨0, Nat.zero_le _, rfl, fun j hj => by omega, (by with_reducible repeat (first | exact ex_refl _ | exact ex_more9 | apply ex_alloc | apply ex_plus | apply ex_drew | apply ex_drewN))⟩
  case round =>
    obtain ⟨k, hk, rfl, hs, x, rfl⟩ := hrel
    by_cases hkl : k < n
    · obtain ⟨g, off, rfl, hg, hcell⟩ := hl.some (by omega)
      obtain ⟨g2, off2, rfl, hg2, hcell2⟩ := hl2.some (by omega)
      have ik : (k : Int) < (n : Int) := by omega
      obtain ⟨c0, c1, c2, c3⟩ := cellCl hlen hcell hkl
      obtain ⟨d0, d1, d2, d3⟩ := cellCl hlen2 hcell2 hkl
      cases hq : eqCl (nth cl0 l k) (nth cl0 l2 k)
      · have hq' : eqC (nth cl0 l k).r (nth cl0 l k).g (nth cl0 l k).b (nth cl0 l k).a (nth cl0 l2 k).r (nth cl0 l2 k).g (nth cl0 l2 k).b (nth cl0 l2 k).a = false := hq
        go_wp2
        refine region_plus (by kernel_rfl) (by kernel_rfl) ?_
        (repeat (go_big_quiet_step (fail)))
        refine wpQuiet_nil ?_
        rintro _ ⟨x2, rfl⟩
        go_wp2
        go_ret
        exact ⟨by rw [show sameC l l2 = false from same_not (k := k) (by omega) hq]; rfl, (by with_reducible repeat (first | exact ex_refl _ | exact ex_more9 | apply ex_alloc | apply ex_plus | apply ex_drew | apply ex_drewN))⟩
      · have hq' : eqC (nth cl0 l k).r (nth cl0 l k).g (nth cl0 l k).b (nth cl0 l k).a (nth cl0 l2 k).r (nth cl0 l2 k).g (nth cl0 l2 k).b (nth cl0 l2 k).a = true := hq
        go_wp2
        refine region_plus (by kernel_rfl) (by kernel_rfl) ?_
        (repeat (go_big_quiet_step (fail)))
        refine wpQuiet_nil ?_
        rintro _ ⟨x2, rfl⟩
        go_wp2
        go_roundw
        case rel => exact ⟨k + 1, by omega, by go_num, upto_succ9 hs hq, (by with_reducible repeat (first | exact ex_refl _ | exact ex_more9 | apply ex_alloc | apply ex_plus | apply ex_drew | apply ex_drewN))⟩
        case measure => simp [intOf]; omega
    · have ik : ¬ (k : Int) < (n : Int) := by omega
      go_wp2
      go_ret
      exact ⟨by rw [show sameC l l2 = true from same_all (by omega) (fun j hj => hs j (by omega))]; rfl, (by with_reducible repeat (first | exact ex_refl _ | exact ex_more9 | apply ex_alloc | apply ex_plus | apply ex_drew | apply ex_drewN))⟩


theorem equalC_is {ao ao2 : Option Addr} {n n2 cap cap2 : Nat} {l l2 : List Cl} {w : World} {b : Bool} (h : sameC l l2 = b) (hl : Lay fCl w ao n l) (hl2 : Lay fCl w ao2 n2 l2) (hn : n ≤ 9223372036854775807) (hn2 : n2 ≤ 9223372036854775807) :
    Calls Try.prog 24 #[.slice ao n cap, .slice ao2 n2 cap2] w fun e w' => e = .returned (.bool b) ∧ ∃ y, w' = plus w y := h ▸ equalC_calls ao ao2 n n2 cap cap2 l l2 w hl hl2 hn hn2

theorem sameT_w {W H W2 H2 : Int} {l l2 : List Cl} (h : ¬ W = W2) : sameT W H l W2 H2 l2 = false := by simp [sameT, h]
theorem sameT_h {W H W2 H2 : Int} {l l2 : List Cl} (h : ¬ H = H2) : sameT W H l W2 H2 l2 = false := by simp [sameT, h]
theorem sameT_no {W H W2 H2 : Int} {l l2 : List Cl} (h : sameC l l2 = false) : sameT W H l W2 H2 l2 = false := by simp [sameT, h]
theorem sameT_l {W H : Int} {l l2 : List Cl} : sameT W H l W H l2 = sameC l l2 := by simp [sameT]

set_option maxHeartbeats 2000000 in
theorem tsame_calls (W H : Int) (ao : Option Addr) (n cap : Nat) (l : List Cl) (W2 H2 : Int) (ao2 : Option Addr) (n2 cap2 : Nat) (l2 : List Cl) (w : World) (hl : Lay fCl w ao n l) (hl2 : Lay fCl w ao2 n2 l2) (hn : n ≤ 9223372036854775807) (hn2 : n2 ≤ 9223372036854775807) :
    Calls Try.prog 19 #[.agg #[.int .i64 W, .int .i64 H, .slice ao n cap], .agg #[.int .i64 W2, .int .i64 H2, .slice ao2 n2 cap2]] w fun e w' => e = .returned (.bool (sameT W H l W2 H2 l2)) ∧ ∃ y, w' = plus w y := by
  by_cases hw : W = W2
  rotate_left
  · rw [sameT_w hw]
    have dq : (W == W2) = false := by rw [beq_eq_false_iff_ne]; exact hw
    go_enter Try.func19, Try.ntmps19
    go_wp2
    go_ret
    exact ⟨rfl, (by with_reducible repeat (first | exact ex_refl _ | exact ex_more9 | apply ex_alloc | apply ex_plus | apply ex_drew | apply ex_drewN))⟩
  by_cases hh : H = H2
  rotate_left
  · rw [sameT_h hh]
    have dq : (H == H2) = false := by rw [beq_eq_false_iff_ne]; exact hh
    subst hw
    go_enter Try.func19, Try.ntmps19
    go_wp2
    go_ret
    exact ⟨rfl, (by with_reducible repeat (first | exact ex_refl _ | exact ex_more9 | apply ex_alloc | apply ex_plus | apply ex_drew | apply ex_drewN))⟩
  subst hw hh
  rw [sameT_l]
  cases hq : sameC l l2
  all_goals
    go_enter Try.func19, Try.ntmps19
    go_wp2_with (go_at_call 24; refine (equalC_is hq (hl.ex (by with_reducible repeat (first | exact ex_refl _ | exact ex_more9 | apply ex_alloc | apply ex_plus | apply ex_drew | apply ex_drewN))) (hl2.ex (by with_reducible repeat (first | exact ex_refl _ | exact ex_more9 | apply ex_alloc | apply ex_plus | apply ex_drew | apply ex_drewN))) hn hn2).mono ?_; rintro e w' ⟨rfl, nx, rfl⟩)
    go_ret
    exact ⟨rfl, (by with_reducible repeat (first | exact ex_refl _ | exact ex_more9 | apply ex_alloc | apply ex_plus | apply ex_drew | apply ex_drewN))⟩

theorem tsame_is {W H : Int} {ao : Option Addr} {n cap : Nat} {l : List Cl} {W2 H2 : Int} {ao2 : Option Addr} {n2 cap2 : Nat} {l2 : List Cl} {w : World} {b : Bool} (h : sameT W H l W2 H2 l2 = b) (hl : Lay fCl w ao n l) (hl2 : Lay fCl w ao2 n2 l2) (hn : n ≤ 9223372036854775807) (hn2 : n2 ≤ 9223372036854775807) :
    Calls Try.prog 19 #[.agg #[.int .i64 W, .int .i64 H, .slice ao n cap], .agg #[.int .i64 W2, .int .i64 H2, .slice ao2 n2 cap2]] w fun e w' => e = .returned (.bool b) ∧ ∃ y, w' = plus w y := h ▸ tsame_calls W H ao n cap l W2 H2 ao2 n2 cap2 l2 w hl hl2 hn hn2

set_option maxHeartbeats 2000000 in
theorem rsame9_calls (W H : Int) (ao : Option Addr) (n cap : Nat) (l : List Cl) (W2 H2 : Int) (ao2 : Option Addr) (n2 cap2 : Nat) (l2 : List Cl) (w : World) (hl : Lay fCl w ao n l) (hl2 : Lay fCl w ao2 n2 l2) (hn : n ≤ 9223372036854775807) (hn2 : n2 ≤ 9223372036854775807) :
    Calls Try.prog 16 #[.agg #[.int .i64 W, .int .i64 H, .slice ao n cap], .agg #[.int .i64 W2, .int .i64 H2, .slice ao2 n2 cap2]] w fun e w' => e = .returned (.bool (sameT W H l W2 H2 l2)) ∧ ∃ y, w' = plus w y := by
  have hlen := hl.len
  have hlen2 := hl2.len
  by_cases hw : W = W2
  rotate_left
  · rw [sameT_w hw]
    have dq : (W == W2) = false := by rw [beq_eq_false_iff_ne]; exact hw
    go_enter Try.func16, Try.ntmps16
    go_wp2
    go_ret
    exact ⟨rfl, (by with_reducible repeat (first | exact ex_refl _ | exact ex_more9 | apply ex_alloc | apply ex_plus | apply ex_drew | apply ex_drewN))⟩
  by_cases hh : H = H2
  rotate_left
  · rw [sameT_h hh]
    have dq : (H == H2) = false := by rw [beq_eq_false_iff_ne]; exact hh
    subst hw
    go_enter Try.func16, Try.ntmps16
    go_wp2
    go_ret
    exact ⟨rfl, (by with_reducible repeat (first | exact ex_refl _ | exact ex_more9 | apply ex_alloc | apply ex_plus | apply ex_drew | apply ex_drewN))⟩
  subst hw hh
  by_cases hne : n = n2
  rotate_left
  · rw [sameT_no (same_len (by omega))]
    have dne : ((n : Int) == (n2 : Int)) = false := by rw [beq_eq_false_iff_ne]; omega
    go_enter Try.func16, Try.ntmps16
    go_wp2
    go_ret
    exact ⟨rfl, (by with_reducible repeat (first | exact ex_refl _ | exact ex_more9 | apply ex_alloc | apply ex_plus | apply ex_drew | apply ex_drewN))⟩
  subst hne
  rw [sameT_l]
  go_enter Try.func16, Try.ntmps16
  go_wp2
  go_loopw [5] (fun i wr => ∃ k : Nat, k ≤ n ∧ i = .int .i64 k ∧ (∀ j, j < k → eqCl (nth cl0 l j) (nth cl0 l2 j) = true) ∧ ∃ x, wr = plus ((w.alloc (.cells #[.int .i64 W, .int .i64 H, .slice ao n cap] 29)).alloc (.cells #[.int .i64 W, .int .i64 H, .slice ao2 n cap2] 29)) x) (fun i _ => n - (intOf i).toNat)
  case atStart => exact ⟨0, Nat.zero_le _, rfl, fun j hj => by omega, (by with_reducible repeat (first | exact ex_refl _ | exact ex_more9 | apply ex_alloc | apply ex_plus | apply ex_drew | apply ex_drewN))⟩
  case round =>
    obtain ⟨k, hk, rfl, hs, x, rfl⟩ := hrel
    by_cases hkl : k < n
    · obtain ⟨g, off, rfl, hg, hcell⟩ := hl.some (by omega)
      obtain ⟨g2, off2, rfl, hg2, hcell2⟩ := hl2.some (by omega)
      have ik : (k : Int) < (n : Int) := by omega
      obtain ⟨c0, c1, c2, c3⟩ := cellCl hlen hcell hkl
      obtain ⟨d0, d1, d2, d3⟩ := cellCl hlen2 hcell2 hkl
      cases hq : eqCl (nth cl0 l k) (nth cl0 l2 k)
      · have hq' : eqC (nth cl0 l k).r (nth cl0 l k).g (nth cl0 l k).b (nth cl0 l k).a (nth cl0 l2 k).r (nth cl0 l2 k).g (nth cl0 l2 k).b (nth cl0 l2 k).a = false := hq
        go_wp2
        refine region_plus (by kernel_rfl) (by kernel_rfl) ?_
        (repeat (go_big_quiet_step (fail)))
        refine wpQuiet_nil ?_
        rintro _ ⟨x2, rfl⟩
        go_wp2
        go_ret
        exact ⟨by rw [show sameC l l2 = false from same_not (k := k) (by omega) hq]; rfl, (by with_reducible repeat (first | exact ex_refl _ | exact ex_more9 | apply ex_alloc | apply ex_plus | apply ex_drew | apply ex_drewN))⟩
      · have hq' : eqC (nth cl0 l k).r (nth cl0 l k).g (nth cl0 l k).b (nth cl0 l k).a (nth cl0 l2 k).r (nth cl0 l2 k).g (nth cl0 l2 k).b (nth cl0 l2 k).a = true := hq
        go_wp2
        refine region_plus (by kernel_rfl) (by kernel_rfl) ?_
        (repeat (go_big_quiet_step (fail)))
        refine wpQuiet_nil ?_
        rintro _ ⟨x2, rfl⟩
        go_wp2
        go_roundw
        case rel => exact ⟨k + 1, by omega, by go_num, upto_succ9 hs hq, (by with_reducible repeat (first | exact ex_refl _ | exact ex_more9 | apply ex_alloc | apply ex_plus | apply ex_drew | apply ex_drewN))⟩
        case measure => simp [intOf]; omega
    · have ik : ¬ (k : Int) < (n : Int) := by omega
      go_wp2
      go_ret
      exact ⟨by rw [show sameC l l2 = true from same_all (by omega) (fun j hj => hs j (by omega))]; rfl, (by with_reducible repeat (first | exact ex_refl _ | exact ex_more9 | apply ex_alloc | apply ex_plus | apply ex_drew | apply ex_drewN))⟩


theorem rsame9_is {W H : Int} {ao : Option Addr} {n cap : Nat} {l : List Cl} {W2 H2 : Int} {ao2 : Option Addr} {n2 cap2 : Nat} {l2 : List Cl} {w : World} {b : Bool} (h : sameT W H l W2 H2 l2 = b) (hl : Lay fCl w ao n l) (hl2 : Lay fCl w ao2 n2 l2) (hn : n ≤ 9223372036854775807) (hn2 : n2 ≤ 9223372036854775807) :
    Calls Try.prog 16 #[.agg #[.int .i64 W, .int .i64 H, .slice ao n cap], .agg #[.int .i64 W2, .int .i64 H2, .slice ao2 n2 cap2]] w fun e w' => e = .returned (.bool b) ∧ ∃ y, w' = plus w y := h ▸ rsame9_calls W H ao n cap l W2 H2 ao2 n2 cap2 l2 w hl hl2 hn hn2

end Go.Proofs.Ytimmbpcoagjcbaa
