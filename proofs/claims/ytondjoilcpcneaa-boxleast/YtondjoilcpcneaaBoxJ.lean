/- What box.Join gives. -/
import Derived.Test.YtondjoilcpcneaaBoxP
import Derived.Test.YtondjoilcpcneaaBoxR
import Derived.Deep.RegionHeld3
namespace Go.Proofs.Ytondjoilcpcneaa
open Go.RowKit Go.ChangeShapes Go.WideShapes Go.ChangeAt
set_option linter.unusedSimpArgs false
set_option linter.unusedVariables false
attribute [local go_sem] plus_size plus_drew dn_set dn_alloc dn_plus plus_dn cell_plus frozen_plus set_plus cell_alloc frozen_alloc set_alloc

theorem cab_even (a b : B6) (k : Nat) : cornersAB a b (2 * k) = cornerN a k := by
  rw [cornersAB, if_pos (by omega), Nat.mul_div_cancel_left k (by decide)]
theorem cab_odd (a b : B6) (k : Nat) : cornersAB a b (2 * k + 1) = cornerN b k := by
  rw [cornersAB, if_neg (by omega), show (2 * k + 1) / 2 = k by omega]

set_option maxHeartbeats 2000000 in
theorem bjoin_calls (a b c d o f a2 b2 c2 d2 o2 f2 : Int) (w : World) :
    Calls Try.prog 11 #[.agg #[.int .i64 a, .int .i64 b, .int .i64 c, .int .i64 d, .int .i64 o, .int .i64 f], .agg #[.int .i64 a2, .int .i64 b2, .int .i64 c2, .int .i64 d2, .int .i64 o2, .int .i64 f2]] w fun e w' => e = .returned (.tuple #[.agg #[.int .i64 ((joinR ⟨⟨a, b, c⟩, ⟨d, o, f⟩⟩ ⟨⟨a2, b2, c2⟩, ⟨d2, o2, f2⟩⟩).1).lo.x, .int .i64 ((joinR ⟨⟨a, b, c⟩, ⟨d, o, f⟩⟩ ⟨⟨a2, b2, c2⟩, ⟨d2, o2, f2⟩⟩).1).lo.y, .int .i64 ((joinR ⟨⟨a, b, c⟩, ⟨d, o, f⟩⟩ ⟨⟨a2, b2, c2⟩, ⟨d2, o2, f2⟩⟩).1).lo.z, .int .i64 ((joinR ⟨⟨a, b, c⟩, ⟨d, o, f⟩⟩ ⟨⟨a2, b2, c2⟩, ⟨d2, o2, f2⟩⟩).1).hi.x, .int .i64 ((joinR ⟨⟨a, b, c⟩, ⟨d, o, f⟩⟩ ⟨⟨a2, b2, c2⟩, ⟨d2, o2, f2⟩⟩).1).hi.y, .int .i64 ((joinR ⟨⟨a, b, c⟩, ⟨d, o, f⟩⟩ ⟨⟨a2, b2, c2⟩, ⟨d2, o2, f2⟩⟩).1).hi.z], .int .i64 (joinR ⟨⟨a, b, c⟩, ⟨d, o, f⟩⟩ ⟨⟨a2, b2, c2⟩, ⟨d2, o2, f2⟩⟩).2]) ∧ Below w.heap.size w w' := by
  cases s1 : mayBx ⟨⟨a, b, c⟩, ⟨d, o, f⟩⟩
  · rw [show joinR ⟨⟨a, b, c⟩, ⟨d, o, f⟩⟩ ⟨⟨a2, b2, c2⟩, ⟨d2, o2, f2⟩⟩ = (zeroBx, 8) by simp [joinR, s1]]
    have k1 : chkBx ⟨⟨a, b, c⟩, ⟨d, o, f⟩⟩ = 8 := if_neg (by rw [s1]; simp)
    go_enter Try.func11, Try.ntmps11
    go_wp2_with (go_at_call 15; refine (plus_post (bcheck_calls _ _ _ _ _ _ _)).mono ?_; rintro e w' ⟨rfl, nx, rfl⟩)
    exact bodyPost_ret (v := .tuple #[.agg #[.int .i64 0, .int .i64 0, .int .i64 0, .int .i64 0, .int .i64 0, .int .i64 0], .int .i64 8]) (by simp [results, Try.results11, go_sem, ↓IntWalk.iteOmega]) rfl ⟨rfl, by with_reducible repeat (first | exact Below.refl _ _ | apply ba | apply bp | apply bd | apply bn)⟩
  have k1 : chkBx ⟨⟨a, b, c⟩, ⟨d, o, f⟩⟩ = 0 := if_pos s1
  cases s2 : mayBx ⟨⟨a2, b2, c2⟩, ⟨d2, o2, f2⟩⟩
  · rw [show joinR ⟨⟨a, b, c⟩, ⟨d, o, f⟩⟩ ⟨⟨a2, b2, c2⟩, ⟨d2, o2, f2⟩⟩ = (zeroBx, 8) by simp [joinR, s2]]
    have k2 : chkBx ⟨⟨a2, b2, c2⟩, ⟨d2, o2, f2⟩⟩ = 8 := if_neg (by rw [s2]; simp)
    go_enter Try.func11, Try.ntmps11
    go_wp2_with (go_at_call 15; refine (plus_post (bcheck_calls _ _ _ _ _ _ _)).mono ?_; rintro e w' ⟨rfl, nx, rfl⟩)
    exact bodyPost_ret (v := .tuple #[.agg #[.int .i64 0, .int .i64 0, .int .i64 0, .int .i64 0, .int .i64 0, .int .i64 0], .int .i64 8]) (by simp [results, Try.results11, go_sem, ↓IntWalk.iteOmega]) rfl ⟨rfl, by with_reducible repeat (first | exact Below.refl _ _ | apply ba | apply bp | apply bd | apply bn)⟩
  have k2 : chkBx ⟨⟨a2, b2, c2⟩, ⟨d2, o2, f2⟩⟩ = 0 := if_pos s2
  rw [show joinR ⟨⟨a, b, c⟩, ⟨d, o, f⟩⟩ ⟨⟨a2, b2, c2⟩, ⟨d2, o2, f2⟩⟩ = (joinBx ⟨⟨a, b, c⟩, ⟨d, o, f⟩⟩ ⟨⟨a2, b2, c2⟩, ⟨d2, o2, f2⟩⟩, 0) by simp [joinR, s1, s2], ← join_lst (mayBx_of s1).2.2 (mayBx_of s2).2.2]
  go_enter Try.func11, Try.ntmps11
  go_wp2_with (go_at_call 15; refine (plus_post (bcheck_calls _ _ _ _ _ _ _)).mono ?_; rintro e w' ⟨rfl, nx, rfl⟩)
  go_loopw [8, 22] (fun v i wr => ∃ (k : Nat) (ao : Option Addr) (cap : Nat), k ≤ 8 ∧ i = .int .i64 k ∧ v = .slice ao (2 * k) cap ∧ (∃ y, wr = plus (((w.alloc (.cells #[.int .i64 a, .int .i64 b, .int .i64 c, .int .i64 d, .int .i64 o, .int .i64 f] 25)).alloc (.cells #[.int .i64 a2, .int .i64 b2, .int .i64 c2, .int .i64 d2, .int .i64 o2, .int .i64 f2] 25)).alloc (.cells #[.int .i64 0, .int .i64 0, .int .i64 0, .int .i64 0, .int .i64 0, .int .i64 0] 25)) y) ∧ Owns (((w.alloc (.cells #[.int .i64 a, .int .i64 b, .int .i64 c, .int .i64 d, .int .i64 o, .int .i64 f] 25)).alloc (.cells #[.int .i64 a2, .int .i64 b2, .int .i64 c2, .int .i64 d2, .int .i64 o2, .int .i64 f2] 25)).alloc (.cells #[.int .i64 0, .int .i64 0, .int .i64 0, .int .i64 0, .int .i64 0, .int .i64 0] 25)) wr v (2 * k) (cornersAB ⟨⟨a, b, c⟩, ⟨d, o, f⟩⟩ ⟨⟨a2, b2, c2⟩, ⟨d2, o2, f2⟩⟩)) (fun _ i _ => 8 - (intOf i).toNat)
  case atStart => exact ⟨0, none, 0, by decide, rfl, rfl, (by with_reducible repeat (first | exact ex_refl _ | exact ex_more | apply ex_alloc | apply ex_plus | apply ex_drew | apply ex_drewN)), owns_nil _ _ _⟩
  case round =>
    obtain ⟨k, ao, cap, hk, rfl, rfl, ⟨y, rfl⟩, hown⟩ := hrel
    by_cases hkl : k < 8
    · have ik : (k : Int) < 8 := by omega
      go_wp2
      go_region_held3 (fun w' => w'.cell? ⟨w.heap.size, 0, none⟩ = some (.int .i64 a) ∧ w'.cell? ⟨w.heap.size, 1, none⟩ = some (.int .i64 b) ∧ w'.cell? ⟨w.heap.size, 2, none⟩ = some (.int .i64 c) ∧ w'.cell? ⟨w.heap.size, 3, none⟩ = some (.int .i64 d) ∧ w'.cell? ⟨w.heap.size, 4, none⟩ = some (.int .i64 o) ∧ w'.cell? ⟨w.heap.size, 5, none⟩ = some (.int .i64 f) ∧ w'.cell? ⟨w.heap.size + 1, 0, none⟩ = some (.int .i64 a2) ∧ w'.cell? ⟨w.heap.size + 1, 1, none⟩ = some (.int .i64 b2) ∧ w'.cell? ⟨w.heap.size + 1, 2, none⟩ = some (.int .i64 c2) ∧ w'.cell? ⟨w.heap.size + 1, 3, none⟩ = some (.int .i64 d2) ∧ w'.cell? ⟨w.heap.size + 1, 4, none⟩ = some (.int .i64 o2) ∧ w'.cell? ⟨w.heap.size + 1, 5, none⟩ = some (.int .i64 f2)) (first | (simp [go_sem, ↓IntWalk.iteOmega]; done)) (first | (go_at_call 26; refine (plus_post (corner_calls _ _ _ _ _ _ k hkl _)).mono ?_; rintro e w' ⟨rfl, nx, rfl⟩) | ((refine step_append_pts (T := ((w.alloc (.cells #[.int .i64 a, .int .i64 b, .int .i64 c, .int .i64 d, .int .i64 o, .int .i64 f] 25)).alloc (.cells #[.int .i64 a2, .int .i64 b2, .int .i64 c2, .int .i64 d2, .int .i64 o2, .int .i64 f2] 25)).alloc (.cells #[.int .i64 0, .int .i64 0, .int .i64 0, .int .i64 0, .int .i64 0, .int .i64 0] 25)) rfl _ _ rfl _ (2 * k) (cornersAB ⟨⟨a, b, c⟩, ⟨d, o, f⟩⟩ ⟨⟨a2, b2, c2⟩, ⟨d2, o2, f2⟩⟩) rfl (by with_reducible repeat (first | exact ex_refl _ | exact ex_more | apply ex_alloc | apply ex_plus | apply ex_drew | apply ex_drewN)) (hown.ex (by with_reducible repeat (first | exact ex_refl _ | exact ex_more | apply ex_alloc | apply ex_plus | apply ex_drew | apply ex_drewN))) _ 0 2 2 rfl ⟨by simp [go_sem]; try omega, fun j hj => by match j, hj with | 0, _ => simp [go_sem, ↓IntWalk.iteOmega, cab_even, cab_odd] | 1, _ => simp [go_sem, ↓IntWalk.iteOmega, cab_even, cab_odd]⟩ (by decide) (by omega) ?_; intro g' cap' y' hown' hg')))
      go_wp2
      go_roundw
      case rel => exact ⟨k + 1, _, cap', by omega, by go_num, rfl, ⟨y', rfl⟩, hown'⟩
      case measure => simp [intOf]; omega
    · obtain rfl : k = 8 := by omega
      obtain ⟨g, cap2, e, _, _⟩ := World.ownsRow.form hown (by decide)
      simp only [Value.slice.injEq, true_and] at e
      obtain ⟨rfl, rfl⟩ := e
      go_wp2_with (go_at_call 27; refine (plus_post (least_calls _ 0 16 _ (cornersAB ⟨⟨a, b, c⟩, ⟨d, o, f⟩⟩ ⟨⟨a2, b2, c2⟩, ⟨d2, o2, f2⟩⟩) _ (by decide) (by decide) ((hown.lies (by decide)).ex (by with_reducible repeat (first | exact ex_refl _ | exact ex_more | apply ex_alloc | apply ex_plus | apply ex_drew | apply ex_drewN))))).mono ?_; rintro e w' ⟨rfl, nx, rfl⟩)
      exact bodyPost_ret (v := .tuple #[.agg #[.int .i64 (lst (cornersAB ⟨⟨a, b, c⟩, ⟨d, o, f⟩⟩ ⟨⟨a2, b2, c2⟩, ⟨d2, o2, f2⟩⟩) 16).lo.x, .int .i64 (lst (cornersAB ⟨⟨a, b, c⟩, ⟨d, o, f⟩⟩ ⟨⟨a2, b2, c2⟩, ⟨d2, o2, f2⟩⟩) 16).lo.y, .int .i64 (lst (cornersAB ⟨⟨a, b, c⟩, ⟨d, o, f⟩⟩ ⟨⟨a2, b2, c2⟩, ⟨d2, o2, f2⟩⟩) 16).lo.z, .int .i64 (lst (cornersAB ⟨⟨a, b, c⟩, ⟨d, o, f⟩⟩ ⟨⟨a2, b2, c2⟩, ⟨d2, o2, f2⟩⟩) 16).hi.x, .int .i64 (lst (cornersAB ⟨⟨a, b, c⟩, ⟨d, o, f⟩⟩ ⟨⟨a2, b2, c2⟩, ⟨d2, o2, f2⟩⟩) 16).hi.y, .int .i64 (lst (cornersAB ⟨⟨a, b, c⟩, ⟨d, o, f⟩⟩ ⟨⟨a2, b2, c2⟩, ⟨d2, o2, f2⟩⟩) 16).hi.z], .int .i64 0]) (by simp [results, Try.results11, go_sem, ↓IntWalk.iteOmega]) rfl ⟨rfl, by with_reducible repeat (first | exact Below.refl _ _ | apply ba | apply bp | apply bd | apply bn)⟩

end Go.Proofs.Ytondjoilcpcneaa
