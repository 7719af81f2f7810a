/- What the document's own Least and Of give (dioramaref03). -/
import Derived.Test.YtondjoilcpcneaaBoxR
namespace Go.Proofs.Ytondjoilcpcneaa
open Go.RowKit Go.ChangeShapes Go.WideShapes Go.ChangeAt
set_option linter.unusedSimpArgs false
set_option linter.unusedVariables false
attribute [local go_sem] plus_size plus_drew dn_set dn_alloc dn_plus plus_dn cell_plus frozen_plus set_plus cell_alloc frozen_alloc set_alloc

theorem lst_one (p : Nat → V3) : lst p 1 = ⟨p 0, p 0⟩ := by
  simp [lst, vmin, vmax]

set_option maxHeartbeats 1000000 in
theorem rleast_calls (g off n cap : Nat) (p : Nat → V3) (w : World) (h0 : 0 < n) (hn : n ≤ 10000) (hl : Lies w g off n p) :
    Calls Try.prog 34 #[.slice (some ⟨g, off, none⟩) n cap] w fun e w' => e = .returned (.agg #[.int .i64 (lst p n).lo.x, .int .i64 (lst p n).lo.y, .int .i64 (lst p n).lo.z, .int .i64 (lst p n).hi.x, .int .i64 (lst p n).hi.y, .int .i64 (lst p n).hi.z]) ∧ Below w.heap.size w w' := by
  obtain ⟨hg, hc⟩ := hl
  obtain ⟨z1, z2, z3⟩ := hc 0 h0
  simp only [Nat.zero_mul, Nat.add_zero] at z1 z2 z3
  have i0 : (0 : Int) < (n : Int) := by omega
  go_enter Try.func34, Try.ntmps34
  go_wp2
  refine region_fresh 7 3 (.cells #[.int .i64 0, .int .i64 0, .int .i64 0, .int .i64 0, .int .i64 0, .int .i64 0] 25) (by kernel_rfl) (by kernel_rfl) rfl (fun _ _ x _ _ h => by cases x <;> exact h) (fun _ _ => by kernel_rfl) ?_
  apply Exists.intro
  refine ⟨fun x0 => ?_, fun x1 x2 => ?_⟩
  · simp only [List.take_succ_cons, List.take_zero]
    (repeat (go_big_quiet_step (fail)))
    exact wpQuiet_nil rfl
  simp only [List.drop_succ_cons, List.drop_zero]
  go_wp2
  go_loopw [4] (fun i wr => ∃ k : Nat, 1 ≤ k ∧ k ≤ n ∧ i = .int .i64 k ∧ ∃ x, wr = plus ((plus (w.alloc (.cells #[.int .i64 0, .int .i64 0, .int .i64 0, .int .i64 0, .int .i64 0, .int .i64 0] 25)) x1).alloc (.cells #[.int .i64 (lst p k).lo.x, .int .i64 (lst p k).lo.y, .int .i64 (lst p k).lo.z, .int .i64 (lst p k).hi.x, .int .i64 (lst p k).hi.y, .int .i64 (lst p k).hi.z] 25)) x) (fun i _ => n - (intOf i).toNat)
  case atStart => exact ⟨1, Nat.le_refl _, h0, rfl, x2, by rw [lst_one]⟩
  case round =>
    obtain ⟨k, hk1, hk, rfl, x, rfl⟩ := hrel
    by_cases hkl : k < n
    · obtain ⟨y1, y2, y3⟩ := hc k hkl
      have ik : (k : Int) < (n : Int) := by omega
      go_wp2
      refine region_tail 8 (by kernel_rfl) (by kernel_rfl) ?_
      simp only [List.take_succ_cons, List.take_zero, List.drop_succ_cons, List.drop_zero]
      (repeat (go_big_quiet_step ((go_at_call 21; exact plus_of (rlow_calls _ _ _ _ _ _ _)))))
      refine wpQuiet_nil ?_
      rintro _ ⟨x2, rfl⟩
      go_wp2
      refine region_tail 8 (by kernel_rfl) (by kernel_rfl) ?_
      simp only [List.take_succ_cons, List.take_zero, List.drop_succ_cons, List.drop_zero]
      (repeat (go_big_quiet_step ((go_at_call 22; exact plus_of (rhigh_calls _ _ _ _ _ _ _)))))
      refine wpQuiet_nil ?_
      rintro _ ⟨x2, rfl⟩
      go_wp2
      go_roundw
      case rel =>
        refine ⟨k + 1, by omega, by omega, by go_num, ?_⟩
        simp only [lst, vmin, vmax]
        exact (by with_reducible repeat (first | exact ex_refl _ | apply ex_alloc | apply ex_plus | apply ex_drew | apply ex_drewN))
      case measure => simp [intOf]; omega
    · obtain rfl : k = n := by omega
      go_wp2
      exact bodyPost_ret (v := .agg #[.int .i64 (lst p k).lo.x, .int .i64 (lst p k).lo.y, .int .i64 (lst p k).lo.z, .int .i64 (lst p k).hi.x, .int .i64 (lst p k).hi.y, .int .i64 (lst p k).hi.z]) (by simp [results, Try.results34, go_sem, ↓IntWalk.iteOmega]) rfl ⟨rfl, by with_reducible repeat (first | exact Below.refl _ _ | apply ba | apply bp | apply bd | apply bn)⟩

theorem rof_many (ao : Option Addr) (n cap : Nat) (p : Nat → V3) (w : World) (hn : n ≤ 10000) (h : n < 1 ∨ 4096 < n) :
    Calls Try.prog 17 #[.slice ao n cap] w fun e w' => e = .returned (ofV p n) ∧ Below w.heap.size w w' := by
  rw [ofV_many h]
  by_cases h1 : n < 1
  · obtain rfl : n = 0 := by omega
    go_enter Try.func17, Try.ntmps17
    go_wp2
    exact bodyPost_ret (v := .tuple #[.agg #[.int .i64 0, .int .i64 0, .int .i64 0, .int .i64 0, .int .i64 0, .int .i64 0], .int .i64 4]) (by simp [results, Try.results17, go_sem, ↓IntWalk.iteOmega]) rfl ⟨rfl, by with_reducible repeat (first | exact Below.refl _ _ | apply ba | apply bp | apply bd | apply bn)⟩
  · have h2 : (4096 : Int) < (n : Int) := by omega
    have h3 : ¬ (n : Int) < 1 := by omega
    go_enter Try.func17, Try.ntmps17
    go_wp2
    exact bodyPost_ret (v := .tuple #[.agg #[.int .i64 0, .int .i64 0, .int .i64 0, .int .i64 0, .int .i64 0, .int .i64 0], .int .i64 4]) (by simp [results, Try.results17, go_sem, ↓IntWalk.iteOmega]) rfl ⟨rfl, by with_reducible repeat (first | exact Below.refl _ _ | apply ba | apply bp | apply bd | apply bn)⟩

set_option maxHeartbeats 1000000 in
theorem rof_some (g off n cap : Nat) (p : Nat → V3) (w : World) (h0 : 0 < n) (hn : n ≤ 4096) (hl : Lies w g off n p) :
    Calls Try.prog 17 #[.slice (some ⟨g, off, none⟩) n cap] w fun e w' => e = .returned (ofV p n) ∧ Below w.heap.size w w' := by
  have hg := hl.1
  have hc := hl.2
  have i0 : ¬ (n : Int) < 1 := by omega
  have i1 : ¬ (4096 : Int) < (n : Int) := by omega
  go_enter Try.func17, Try.ntmps17
  go_wp2
  go_loopw [4] (fun i wr => ∃ k : Nat, k ≤ n ∧ i = .int .i64 k ∧ seen p k = true ∧ ∃ x, wr = plus (w.alloc (.cells #[.int .i64 0, .int .i64 0, .int .i64 0, .int .i64 0, .int .i64 0, .int .i64 0] 25)) x) (fun i _ => n - (intOf i).toNat)
  case atStart => exact ⟨0, Nat.zero_le _, rfl, rfl, (by with_reducible repeat (first | exact ex_refl _ | apply ex_alloc | apply ex_plus | apply ex_drew | apply ex_drewN))⟩
  case round =>
    obtain ⟨k, hk, rfl, hs, x, rfl⟩ := hrel
    by_cases hkl : k < n
    · obtain ⟨y1, y2, y3⟩ := hc k hkl
      have ik : (k : Int) < (n : Int) := by omega
      cases hv : all3 (p k) 32768
      · have e : all3 ⟨(p k).x, (p k).y, (p k).z⟩ 32768 = false := hv
        go_wp2_with (go_at_call 33; refine (plus_post (rall_calls _ _ _ _ (by omega) (by omega) _)).mono ?_; rintro e w' ⟨rfl, nx, rfl⟩)
        exact bodyPost_ret (v := .tuple #[.agg #[.int .i64 0, .int .i64 0, .int .i64 0, .int .i64 0, .int .i64 0, .int .i64 0], .int .i64 20]) (by simp [results, Try.results17, go_sem, ↓IntWalk.iteOmega]) rfl ⟨by rw [ofV_bad h0 hn hkl hv], by with_reducible repeat (first | exact Below.refl _ _ | apply ba | apply bp | apply bd | apply bn)⟩
      · have e : all3 ⟨(p k).x, (p k).y, (p k).z⟩ 32768 = true := hv
        go_wp2_with (go_at_call 33; refine (plus_post (rall_calls _ _ _ _ (by omega) (by omega) _)).mono ?_; rintro e w' ⟨rfl, nx, rfl⟩)
        go_roundw
        case rel => exact ⟨k + 1, by omega, by go_num, by simp [seen, hs, hv], (by with_reducible repeat (first | exact ex_refl _ | apply ex_alloc | apply ex_plus | apply ex_drew | apply ex_drewN))⟩
        case measure => simp [intOf]; omega
    · obtain rfl : k = n := by omega
      go_wp2_with (go_at_call 34; refine (plus_post (rleast_calls _ _ _ _ p _ h0 (by omega) (hl.ex (by with_reducible repeat (first | exact ex_refl _ | apply ex_alloc | apply ex_plus | apply ex_drew | apply ex_drewN))))).mono ?_; rintro e w' ⟨rfl, nx, rfl⟩)
      exact bodyPost_ret (v := .tuple #[.agg #[.int .i64 (lst p k).lo.x, .int .i64 (lst p k).lo.y, .int .i64 (lst p k).lo.z, .int .i64 (lst p k).hi.x, .int .i64 (lst p k).hi.y, .int .i64 (lst p k).hi.z], .int .i64 0]) (by simp [results, Try.results17, go_sem, ↓IntWalk.iteOmega]) rfl ⟨by rw [ofV_good h0 hn hs], by with_reducible repeat (first | exact Below.refl _ _ | apply ba | apply bp | apply bd | apply bn)⟩

end Go.Proofs.Ytondjoilcpcneaa
