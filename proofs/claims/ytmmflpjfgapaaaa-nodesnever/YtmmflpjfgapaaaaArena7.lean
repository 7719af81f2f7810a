/- What arena's (slots).free, firstThat, Same and Twin give. -/
import Derived.Test.YtmmflpjfgapaaaaArena6
import Derived.Test.YtmmflpjfgapaaaaArena3
import Derived.Test.YtmmflpjfgapaaaaCopy
namespace Go.Proofs.Ytmmflpjfgapaaaa
open Go.RowKit Go.ChangeShapes Go.WideShapes Go.ChangeAt
set_option linter.unusedSimpArgs false
set_option linter.unusedVariables false
attribute [local go_sem] plus_size plus_drew dn_set dn_alloc dn_plus plus_dn cell_plus frozen_plus set_plus cell_alloc frozen_alloc set_alloc

theorem lfree_calls (ao : Option Addr) (n cap k : Nat) (l : List Sl) (w : World) (hl : Lay fS w ao n l) (hk : k < n) :
    Calls Try.prog 72 #[.slice ao n cap, .int .i64 k] w fun e w' => e = .returned (.bool (freeS (nth dSl l k))) ∧ Below w.heap.size w w' := by
  obtain ⟨g, off, rfl, hg, hcell⟩ := hl.some (by omega)
  obtain ⟨c0, c1⟩ := cellS hl.len hcell hk
  have ik : (k : Int) < (n : Int) := by omega
  cases hv : (nth dSl l k).live
  rotate_left
  · rw [show freeS (nth dSl l k) = false by simp [freeS, hv]]
    rw [hv] at c1
    go_enter Try.func72, Try.ntmps72
    go_wp2
    go_ret
    exact ⟨rfl, by with_reducible repeat (first | exact Below.refl _ _ | apply ba | apply bp | apply bd | apply bn)⟩
  rw [hv] at c1
  by_cases h2 : (nth dSl l k).gen < 1073741824
  · rw [show freeS (nth dSl l k) = true by simp [freeS, hv, h2]]
    go_enter Try.func72, Try.ntmps72
    go_wp2
    go_ret
    exact ⟨rfl, by with_reducible repeat (first | exact Below.refl _ _ | apply ba | apply bp | apply bd | apply bn)⟩
  · rw [show freeS (nth dSl l k) = false by simp [freeS, h2]]
    have d2 := decide_eq_false h2
    go_enter Try.func72, Try.ntmps72
    go_wp2
    go_ret
    exact ⟨rfl, by with_reducible repeat (first | exact Below.refl _ _ | apply ba | apply bp | apply bd | apply bn)⟩

set_option maxHeartbeats 2000000 in
theorem lfirst_calls (ao : Option Addr) (n cap : Nat) (l : List Sl) (w : World) (hl : Lay fS w ao n l) (hn : n ≤ 10000) :
    Calls Try.prog 71 #[.func (.func 72) #[.slice ao n cap] #[], .int .i64 n] w fun e w' => e = .returned (.int .i64 (freeAt l)) ∧ Below w.heap.size w w' := by
  have hlen := hl.len
  go_enter Try.func71, Try.ntmps71
  go_wp2
  go_loopw [7] (fun i wr => ∃ k : Nat, k ≤ n ∧ i = .int .i64 k ∧ (∀ j, j < k → freeS (nth dSl l j) = false) ∧ ∃ x, wr = plus w x) (fun i _ => n - (intOf i).toNat)
  case atStart => exact ⟨0, Nat.zero_le _, rfl, fun j hj => by omega, (by with_reducible repeat (first | exact ex_refl _ | exact ex_more | apply ex_alloc | apply ex_plus | apply ex_drew | apply ex_drewN))⟩
  case round =>
    obtain ⟨k, hk, rfl, hs, x, rfl⟩ := hrel
    by_cases hkl : k < n
    · have ik : (k : Int) < (n : Int) := by omega
      cases hf : freeS (nth dSl l k)
      · go_wp2_with (go_at_call 72; refine (plus_post (lfree_calls _ _ _ _ l _ (hl.ex (by with_reducible repeat (first | exact ex_refl _ | exact ex_more | apply ex_alloc | apply ex_plus | apply ex_drew | apply ex_drewN))) hkl)).mono ?_; rintro e w' ⟨rfl, nx, rfl⟩; rw [hf])
        go_roundw
        case rel => exact ⟨k + 1, by omega, by go_num, upto_succ hs hf, (by with_reducible repeat (first | exact ex_refl _ | exact ex_more | apply ex_alloc | apply ex_plus | apply ex_drew | apply ex_drewN))⟩
        case measure => simp [intOf]; omega
      · have hfa : freeAt l = k := freeAt_is (by omega) hs (fun _ => hf)
        go_wp2_with (go_at_call 72; refine (plus_post (lfree_calls _ _ _ _ l _ (hl.ex (by with_reducible repeat (first | exact ex_refl _ | exact ex_more | apply ex_alloc | apply ex_plus | apply ex_drew | apply ex_drewN))) hkl)).mono ?_; rintro e w' ⟨rfl, nx, rfl⟩; rw [hf])
        go_ret
        exact ⟨by first | rfl | (rw [hfa]; rfl), by with_reducible repeat (first | exact Below.refl _ _ | apply ba | apply bp | apply bd | apply bn)⟩
    · have ik : ¬ (k : Int) < (n : Int) := by omega
      have hfa : freeAt l = n := freeAt_is (by omega) (fun j hj => hs j (by omega)) (fun h => by omega)
      go_wp2
      go_ret
      exact ⟨by first | rfl | (rw [hfa]; rfl), by with_reducible repeat (first | exact Below.refl _ _ | apply ba | apply bp | apply bd | apply bn)⟩

set_option maxHeartbeats 2000000 in
theorem equalS_calls (ao ao2 : Option Addr) (n n2 cap cap2 : Nat) (l l2 : List Sl) (w : World) (hl : Lay fS w ao n l) (hl2 : Lay fS w ao2 n2 l2) (hn : n ≤ 10000) (hn2 : n2 ≤ 10000) :
    Calls Try.prog 77 #[.slice ao n cap, .slice ao2 n2 cap2] w fun e w' => e = .returned (.bool (sameS l l2)) ∧ Below w.heap.size w w' := by
  have hlen := hl.len
  have hlen2 := hl2.len
  by_cases hne : n = n2
  rotate_left
  · rw [show sameS l l2 = false from same_len (by omega)]
    have ine : ¬ (n : Int) = (n2 : Int) := by omega
    have dne : ((n : Int) == (n2 : Int)) = false := by rw [beq_eq_false_iff_ne]; omega
    go_enter Try.func77, Try.ntmps77
    go_wp2
    go_ret
    exact ⟨rfl, by with_reducible repeat (first | exact Below.refl _ _ | apply ba | apply bp | apply bd | apply bn)⟩
  subst hne
  go_enter Try.func77, Try.ntmps77
  go_wp2
  go_loopw [13] (fun i wr => ∃ k : Nat, k ≤ n ∧ i = .int .i64 k ∧ (∀ j, j < k → eqS (nth dSl l j) (nth dSl l2 j) = true) ∧ ∃ x, wr = plus w x) (fun i _ => n - (intOf i).toNat)
  case atStart => exact ⟨0, Nat.zero_le _, rfl, fun j hj => by omega, (by with_reducible repeat (first | exact ex_refl _ | exact ex_more | apply ex_alloc | apply ex_plus | apply ex_drew | apply ex_drewN))⟩
  case round =>
    obtain ⟨k, hk, rfl, hs, x, rfl⟩ := hrel
    by_cases hkl : k < n
    · obtain ⟨g, off, rfl, hg, hcell⟩ := hl.some (by omega)
      obtain ⟨g2, off2, rfl, hg2, hcell2⟩ := hl2.some (by omega)
      have ik : (k : Int) < (n : Int) := by omega
      obtain ⟨c0, c1⟩ := cellS hlen hcell hkl
      obtain ⟨d0, d1⟩ := cellS hlen2 hcell2 hkl
      by_cases q0 : (nth dSl l k).gen = (nth dSl l2 k).gen
      rotate_left
      · have dq : ((nth dSl l k).gen == (nth dSl l2 k).gen) = false := by simp [q0]
        go_wp2
        refine region_plus (by kernel_rfl) (by kernel_rfl) ?_
        (repeat (go_big_quiet_step (fail)))
        refine wpQuiet_nil ?_
        rintro _ ⟨x2, rfl⟩
        go_wp2
        go_ret
        exact ⟨by rw [show sameS l l2 = false from same_not (k := k) (by omega) (by simp [eqS, q0])]; rfl, by with_reducible repeat (first | exact Below.refl _ _ | apply ba | apply bp | apply bd | apply bn)⟩
      by_cases q1 : (nth dSl l k).live = (nth dSl l2 k).live
      rotate_left
      · have dq : ((nth dSl l k).live == (nth dSl l2 k).live) = false := by simp [q1]
        go_wp2
        refine region_plus (by kernel_rfl) (by kernel_rfl) ?_
        (repeat (go_big_quiet_step (fail)))
        refine wpQuiet_nil ?_
        rintro _ ⟨x2, rfl⟩
        go_wp2
        go_ret
        exact ⟨by rw [show sameS l l2 = false from same_not (k := k) (by omega) (by simp [eqS, q1])]; rfl, by with_reducible repeat (first | exact Below.refl _ _ | apply ba | apply bp | apply bd | apply bn)⟩
      go_wp2
      refine region_plus (by kernel_rfl) (by kernel_rfl) ?_
      (repeat (go_big_quiet_step (fail)))
      refine wpQuiet_nil ?_
      rintro _ ⟨x2, rfl⟩
      go_wp2
      go_roundw
      case rel => exact ⟨k + 1, by omega, by go_num, upto_succ hs (by simp [eqS, q0, q1]), (by with_reducible repeat (first | exact ex_refl _ | exact ex_more | apply ex_alloc | apply ex_plus | apply ex_drew | apply ex_drewN))⟩
      case measure => simp [intOf]; omega
    · have ik : ¬ (k : Int) < (n : Int) := by omega
      go_wp2
      go_ret
      exact ⟨by rw [show sameS l l2 = true from same_all (by omega) (fun j hj => hs j (by omega))]; rfl, by with_reducible repeat (first | exact Below.refl _ _ | apply ba | apply bp | apply bd | apply bn)⟩

theorem lsame_calls (ao ao2 : Option Addr) (n n2 cap cap2 : Nat) (l l2 : List Sl) (w : World) (hl : Lay fS w ao n l) (hl2 : Lay fS w ao2 n2 l2) (hn : n ≤ 10000) (hn2 : n2 ≤ 10000) :
    Calls Try.prog 58 #[.agg #[.slice ao n cap], .agg #[.slice ao2 n2 cap2]] w fun e w' => e = .returned (.bool (sameS l l2)) ∧ Below w.heap.size w w' := by
  go_enter Try.func58, Try.ntmps58
  go_wp2_with (go_at_call 77; refine (plus_post (equalS_calls _ _ _ _ _ _ l l2 _ (hl.ex (by with_reducible repeat (first | exact ex_refl _ | exact ex_more | apply ex_alloc | apply ex_plus | apply ex_drew | apply ex_drewN))) (hl2.ex (by with_reducible repeat (first | exact ex_refl _ | exact ex_more | apply ex_alloc | apply ex_plus | apply ex_drew | apply ex_drewN))) hn hn2)).mono ?_; rintro e w' ⟨rfl, nx, rfl⟩)
  go_ret
  exact ⟨rfl, by with_reducible repeat (first | exact Below.refl _ _ | apply ba | apply bp | apply bd | apply bn)⟩

theorem ltwin_calls (ao : Option Addr) (n cap : Nat) (l : List Sl) (w : World) (hl : Lay fS w ao n l) (hn : n ≤ 10000) :
    Calls Try.prog 56 #[.agg #[.slice ao n cap]] w fun e w' => ∃ ao' cap', e = .returned (.agg #[.slice ao' n cap']) ∧ (∃ y, w' = plus w y) ∧ Own 67 2 fS w w' ao' n cap' l := by
  have hlen := hl.len
  obtain ⟨cur, hcur, hmk⟩ := run_make_lay kinS.info kinS.und n (by omega) (by decide)
  have hcp := run_copy_new (W := ((w.alloc (.cells #[.slice ao n cap] 24))).alloc (.cells #[.slice none 0 0] 24)) (g := w.heap.size + 1 + 1) (cap := n) (c2 := cap) (t2 := 22) (ty := 3) (ob := .cells #[.slice (some ⟨w.heap.size + 1 + 1, 0, none⟩) n n] 24) kinS fS_c fS_1 (by simp [go_sem]) (hl.ex (by with_reducible repeat (first | exact ex_refl _ | exact ex_more | apply ex_alloc | apply ex_plus | apply ex_drew | apply ex_drewN))) hcur
  go_enter Try.func56, Try.ntmps56
  go_wp2
  exact bodyPost_ret (v := .agg #[.slice (some ⟨w.heap.size + 1 + 1, 0, none⟩) n n]) (by simp [results, Try.results56, go_sem, ↓IntWalk.iteOmega]) rfl ⟨some ⟨w.heap.size + 1 + 1, 0, none⟩, n, rfl, (by with_reducible repeat (first | exact ex_refl _ | exact ex_more | apply ex_alloc | apply ex_plus | apply ex_drew | apply ex_drewN)), own_row hlen fS_c (by rw [blk_alloc, if_neg (by simp), blk_alloc, if_pos (by simp)]) (by omega) (by unfold maxLen; omega)⟩

end Go.Proofs.Ytmmflpjfgapaaaa
