/- What arena.Check, slotOf, held and Holds give. -/
import Derived.Test.YtmmflpjfgapaaaaArena2
namespace Go.Proofs.Ytmmflpjfgapaaaa
open Go.RowKit Go.ChangeShapes Go.WideShapes Go.ChangeAt
set_option linter.unusedSimpArgs false
set_option linter.unusedVariables false
attribute [local go_sem] plus_size plus_drew dn_set dn_alloc dn_plus plus_dn cell_plus frozen_plus set_plus cell_alloc frozen_alloc set_alloc

set_option maxHeartbeats 2000000 in
theorem lcheck_calls (ao : Option Addr) (n cap : Nat) (l : List Sl) (w : World) (hl : Lay fS w ao n l) (hn : n ≤ 9223372036854775807) :
    Calls Try.prog 66 #[.agg #[.slice ao n cap]] w fun e w' => e = .returned (.int .i64 (allErr l)) ∧ Below w.heap.size w w' := by
  have hlen := hl.len
  by_cases h3 : n ≤ 128
  rotate_left
  · have i3 : (128 : Int) < (n : Int) := by omega
    have hno : allErr l = 8 := by rw [allErr, if_neg]; simp [arOk]; omega
    rw [hno]
    go_enter Try.func66, Try.ntmps66
    go_wp2
    go_ret
    exact ⟨rfl, by with_reducible repeat (first | exact Below.refl _ _ | apply ba | apply bp | apply bd | apply bn)⟩
  have i3 : ¬ (128 : Int) < (n : Int) := by omega
  have d3 := decide_eq_false i3
  go_enter Try.func66, Try.ntmps66
  go_wp2
  go_loopw [12] (fun i wr => ∃ k : Nat, k ≤ n ∧ i = .int .i64 k ∧ (∀ j, j < k → slOk (nth dSl l j) = true) ∧ ∃ x, wr = plus (w.alloc (.cells #[.slice ao n cap] 24)) x) (fun i _ => n - (intOf i).toNat)
  case atStart => exact ⟨0, Nat.zero_le _, rfl, fun j hj => by omega, (by with_reducible repeat (first | exact ex_refl _ | exact ex_more | apply ex_alloc | apply ex_plus | apply ex_drew | apply ex_drewN))⟩
  case round =>
    obtain ⟨k, hk, rfl, hs, x, rfl⟩ := hrel
    by_cases hkl : k < n
    · obtain ⟨g, off, rfl, hg, hcell⟩ := hl.some (by omega)
      obtain ⟨c0, c1⟩ := cellS hlen hcell hkl
      have ik : (k : Int) < (n : Int) := by omega
      by_cases h1 : (nth dSl l k).gen < 1
      · have hno : arOk l = false := by rw [arOk, all_bad (d := dSl) (k := k) (by omega) (by simp [slOk]; omega), Bool.false_and]
        go_wp2
        go_ret
        exact ⟨by rw [allErr, hno]; rfl, by with_reducible repeat (first | exact Below.refl _ _ | apply ba | apply bp | apply bd | apply bn)⟩
      have d1 := decide_eq_false h1
      by_cases h2 : 1073741824 < (nth dSl l k).gen
      · have hno : arOk l = false := by rw [arOk, all_bad (d := dSl) (k := k) (by omega) (by simp [slOk]; omega), Bool.false_and]
        go_wp2
        go_ret
        exact ⟨by rw [allErr, hno]; rfl, by with_reducible repeat (first | exact Below.refl _ _ | apply ba | apply bp | apply bd | apply bn)⟩
      · have d2 := decide_eq_false h2
        have hok : slOk (nth dSl l k) = true := by simp [slOk]; omega
        go_wp2
        go_roundw
        case rel => exact ⟨k + 1, by omega, by go_num, upto_succ hs hok, (by with_reducible repeat (first | exact ex_refl _ | exact ex_more | apply ex_alloc | apply ex_plus | apply ex_drew | apply ex_drewN))⟩
        case measure => simp [intOf]; omega
    · have ik : ¬ (k : Int) < (n : Int) := by omega
      have hall : l.all slOk = true := all_yes (d := dSl) (fun j hj => hs j (by omega))
      go_wp2
      go_ret
      exact ⟨by rw [allErr, arOk, hall, hlen, decide_eq_true h3]; rfl, by with_reducible repeat (first | exact Below.refl _ _ | apply ba | apply bp | apply bd | apply bn)⟩

theorem lslotOf_calls (s g : Int) (w : World) : Calls Try.prog 73 #[.agg #[.int .i64 s, .int .i64 g]] w fun e w' => e = .returned (.agg #[.int .i64 g, .bool true]) ∧ Below w.heap.size w w' := by
  go_enter Try.func73, Try.ntmps73
  go_wp2
  exact bodyPost_ret (v := .agg #[.int .i64 g, .bool true]) (by simp [results, Try.results73, go_sem, ↓IntWalk.iteOmega]) rfl ⟨rfl, by with_reducible repeat (first | exact Below.refl _ _ | apply ba | apply bp | apply bd | apply bn)⟩

set_option maxRecDepth 100000 in
set_option maxHeartbeats 2000000 in
theorem lheld_calls (ao : Option Addr) (n cap : Nat) (l : List Sl) (s g : Int) (w : World) (hl : Lay fS w ao n l) (hn : n ≤ 9223372036854775807) :
    Calls Try.prog 67 #[.agg #[.slice ao n cap], .agg #[.int .i64 s, .int .i64 g]] w fun e w' => e = .returned (.bool (heldIn l s g)) ∧ Below w.heap.size w w' := by
  have hlen := hl.len
  by_cases h0 : 0 ≤ s
  rotate_left
  · rw [show heldIn l s g = false by simp [heldIn, h0]]
    have d0 : decide (0 ≤ s) = false := decide_eq_false h0
    go_enter Try.func67, Try.ntmps67
    go_wp2
    refine region_plus (by kernel_rfl) (by kernel_rfl) ?_
    (repeat (go_big_quiet_step ((go_at_call 73; exact plus_of (lslotOf_calls _ _ _)))))
    refine wpQuiet_nil ?_
    rintro _ ⟨x2, rfl⟩
    go_wp2
    go_ret
    exact ⟨rfl, by with_reducible repeat (first | exact Below.refl _ _ | apply ba | apply bp | apply bd | apply bn)⟩
  by_cases h1 : s < n
  rotate_left
  · rw [show heldIn l s g = false by simp [heldIn, hlen, h1]]
    have d1 : decide (s < (n : Int)) = false := decide_eq_false h1
    go_enter Try.func67, Try.ntmps67
    go_wp2
    refine region_plus (by kernel_rfl) (by kernel_rfl) ?_
    (repeat (go_big_quiet_step ((go_at_call 73; exact plus_of (lslotOf_calls _ _ _)))))
    refine wpQuiet_nil ?_
    rintro _ ⟨x2, rfl⟩
    go_wp2
    go_ret
    exact ⟨rfl, by with_reducible repeat (first | exact Below.refl _ _ | apply ba | apply bp | apply bd | apply bn)⟩
  obtain ⟨k, rfl⟩ : ∃ k : Nat, s = (k : Int) := ⟨s.toNat, by omega⟩
  obtain ⟨gm, off, rfl, hg, hcell⟩ := hl.some (by omega)
  obtain ⟨c0, c1⟩ := cellS hlen hcell (k := k) (by omega)
  by_cases h3 : (nth dSl l k).gen = g
  rotate_left
  · rw [show heldIn l k g = false by simp [heldIn, h3]]
    have d3 : ((nth dSl l k).gen == g) = false := by rw [beq_eq_false_iff_ne]; exact h3
    go_enter Try.func67, Try.ntmps67
    go_wp2
    refine region_plus (by kernel_rfl) (by kernel_rfl) ?_
    (repeat (go_big_quiet_step ((go_at_call 73; exact plus_of (lslotOf_calls _ _ _)))))
    refine wpQuiet_nil ?_
    rintro _ ⟨x2, rfl⟩
    go_wp2
    go_ret
    exact ⟨rfl, by with_reducible repeat (first | exact Below.refl _ _ | apply ba | apply bp | apply bd | apply bn)⟩
  cases h2 : (nth dSl l k).live
  · rw [show heldIn l k g = false by simp [heldIn, h2]]
    go_enter Try.func67, Try.ntmps67
    go_wp2
    refine region_plus (by kernel_rfl) (by kernel_rfl) ?_
    (repeat (go_big_quiet_step ((go_at_call 73; exact plus_of (lslotOf_calls _ _ _)))))
    refine wpQuiet_nil ?_
    rintro _ ⟨x2, rfl⟩
    go_wp2
    go_ret
    exact ⟨rfl, by with_reducible repeat (first | exact Below.refl _ _ | apply ba | apply bp | apply bd | apply bn)⟩
  · rw [show heldIn l k g = true by rw [held_spec, Int.toNat_natCast, hlen]; exact ⟨⟨h0, h1⟩, h2, h3⟩]
    go_enter Try.func67, Try.ntmps67
    go_wp2
    refine region_plus (by kernel_rfl) (by kernel_rfl) ?_
    (repeat (go_big_quiet_step ((go_at_call 73; exact plus_of (lslotOf_calls _ _ _)))))
    refine wpQuiet_nil ?_
    rintro _ ⟨x2, rfl⟩
    go_wp2
    go_ret
    exact ⟨rfl, by with_reducible repeat (first | exact Below.refl _ _ | apply ba | apply bp | apply bd | apply bn)⟩

theorem lholds_calls (ao : Option Addr) (n cap : Nat) (l : List Sl) (s g : Int) (w : World) (hl : Lay fS w ao n l) (hn : n ≤ 9223372036854775807) :
    Calls Try.prog 61 #[.agg #[.slice ao n cap], .agg #[.int .i64 s, .int .i64 g]] w fun e w' => e = .returned (.bool (holds l s g)) ∧ Below w.heap.size w w' := by
  cases ho : arOk l
  · rw [show holds l s g = false by rw [holds, ho, Bool.false_and]]
    have he : allErr l = 8 := by rw [allErr, ho]; rfl
    go_enter Try.func61, Try.ntmps61
    go_wp2_with (first | (go_at_call 66; refine (plus_post (lcheck_calls _ _ _ l _ (hl.ex (by with_reducible repeat (first | exact ex_refl _ | exact ex_more | apply ex_alloc | apply ex_plus | apply ex_drew | apply ex_drewN))) (by omega))).mono ?_; rintro e w' ⟨rfl, nx, rfl⟩; rw [he]) | (go_at_call 67; refine (plus_post (lheld_calls _ _ _ l _ _ _ (hl.ex (by with_reducible repeat (first | exact ex_refl _ | exact ex_more | apply ex_alloc | apply ex_plus | apply ex_drew | apply ex_drewN))) (by omega))).mono ?_; rintro e w' ⟨rfl, nx, rfl⟩))
    go_ret
    exact ⟨rfl, by with_reducible repeat (first | exact Below.refl _ _ | apply ba | apply bp | apply bd | apply bn)⟩
  · rw [show holds l s g = heldIn l s g by rw [holds, ho, Bool.true_and]]
    have he : allErr l = 0 := by rw [allErr, ho]; rfl
    go_enter Try.func61, Try.ntmps61
    go_wp2_with (first | (go_at_call 66; refine (plus_post (lcheck_calls _ _ _ l _ (hl.ex (by with_reducible repeat (first | exact ex_refl _ | exact ex_more | apply ex_alloc | apply ex_plus | apply ex_drew | apply ex_drewN))) (by omega))).mono ?_; rintro e w' ⟨rfl, nx, rfl⟩; rw [he]) | (go_at_call 67; refine (plus_post (lheld_calls _ _ _ l _ _ _ (hl.ex (by with_reducible repeat (first | exact ex_refl _ | exact ex_more | apply ex_alloc | apply ex_plus | apply ex_drew | apply ex_drewN))) (by omega))).mono ?_; rintro e w' ⟨rfl, nx, rfl⟩))
    go_ret
    exact ⟨rfl, by with_reducible repeat (first | exact Below.refl _ _ | apply ba | apply bp | apply bd | apply bn)⟩

end Go.Proofs.Ytmmflpjfgapaaaa
