/- Lists of points: where they lie; their least box (box.least). -/
import Derived.Test.YtondjoilcpcneaaBox3
import Derived.Test.YtondjoilcpcneaaFresh
namespace Go.Proofs.Ytondjoilcpcneaa
open Go.RowKit Go.ChangeShapes Go.WideShapes Go.ChangeAt
set_option linter.unusedSimpArgs false
set_option linter.unusedVariables false
attribute [local go_sem] plus_size plus_drew dn_set dn_alloc dn_plus plus_dn cell_plus frozen_plus set_plus cell_alloc frozen_alloc set_alloc

/-- n points lie in block g from off on -/
def Lies (w : World) (g off n : Nat) (p : Nat → V3) : Prop :=
  g < w.heap.size ∧ ∀ k, k < n → w.cell? ⟨g, off + k * 3, none⟩ = some (.int .i64 (p k).x) ∧ w.cell? ⟨g, off + k * 3 + 1, none⟩ = some (.int .i64 (p k).y) ∧ w.cell? ⟨g, off + k * 3 + 2, none⟩ = some (.int .i64 (p k).z)
/-- the least box of the first and the first k points -/
def lst (p : Nat → V3) : Nat → B6
  | 0 => ⟨p 0, p 0⟩
  | k + 1 => ⟨vmin (lst p k).lo (p k), vmax (lst p k).hi (p k)⟩

set_option maxHeartbeats 1000000 in
theorem least_calls (g off n cap : Nat) (p : Nat → V3) (w : World) (h0 : 0 < n) (hn : n ≤ 10000) (hl : Lies w g off n p) :
    Calls Try.prog 27 #[.slice (some ⟨g, off, none⟩) n cap] w fun e w' => e = .returned (.agg #[.int .i64 (lst p n).lo.x, .int .i64 (lst p n).lo.y, .int .i64 (lst p n).lo.z, .int .i64 (lst p n).hi.x, .int .i64 (lst p n).hi.y, .int .i64 (lst p n).hi.z]) ∧ Below w.heap.size w w' := by
  obtain ⟨hg, hc⟩ := hl
  obtain ⟨z1, z2, z3⟩ := hc 0 h0
  simp only [Nat.zero_mul, Nat.add_zero] at z1 z2 z3
  have i0 : (0 : Int) < (n : Int) := by omega
  go_enter Try.func27, Try.ntmps27
  go_wp2
  refine region_fresh 7 3 (.cells #[.int .i64 0, .int .i64 0, .int .i64 0, .int .i64 0, .int .i64 0, .int .i64 0] 25) (by kernel_rfl) (by kernel_rfl) rfl (fun _ _ x _ _ h => by cases x <;> exact h) (fun _ _ => by kernel_rfl) ?_
  apply Exists.intro
  refine ⟨fun x0 => ?_, fun x1 x2 => ?_⟩
  · simp only [List.take_succ_cons, List.take_zero]
    (repeat (go_big_quiet_step (fail)))
    exact wpQuiet_nil rfl
  simp only [List.drop_succ_cons, List.drop_zero]
  go_wp2
  go_loopw [15] (fun i wr => ∃ k : Nat, k ≤ n ∧ i = .int .i64 k ∧ ∃ x, wr = plus ((plus (w.alloc (.cells #[.int .i64 0, .int .i64 0, .int .i64 0, .int .i64 0, .int .i64 0, .int .i64 0] 25)) x1).alloc (.cells #[.int .i64 (lst p k).lo.x, .int .i64 (lst p k).lo.y, .int .i64 (lst p k).lo.z, .int .i64 (lst p k).hi.x, .int .i64 (lst p k).hi.y, .int .i64 (lst p k).hi.z] 25)) x) (fun i _ => n - (intOf i).toNat)
  case atStart => exact ⟨0, Nat.zero_le _, rfl, x2, rfl⟩
  case round =>
    obtain ⟨k, hk, rfl, x, rfl⟩ := hrel
    by_cases hkl : k < n
    · obtain ⟨y1, y2, y3⟩ := hc k hkl
      have ik : (k : Int) < (n : Int) := by omega
      go_wp2_with (go_at_call 44; refine (widen_calls _ _ _ _ _ _ _ _ (by simp [go_sem, ↓IntWalk.iteOmega]; rfl) (by simp [go_sem, ↓IntWalk.iteOmega] <;> (intros; exfalso; omega)) (by simp [go_sem, ↓IntWalk.iteOmega]; rfl) (by simp [go_sem, ↓IntWalk.iteOmega] <;> (intros; exfalso; omega)) (by simp [go_sem]; try omega) (by simp [go_sem]; try omega) (by decide)).mono ?_; rintro e w' ⟨rfl, nx, rfl⟩)
      go_roundw
      case rel =>
        refine ⟨k + 1, by omega, by go_num, ?_⟩
        simp only [lst, vmin, vmax]
        exact (by with_reducible repeat (first | exact ex_refl _ | apply ex_alloc | apply ex_plus | apply ex_drew | apply ex_drewN))
      case measure => simp [intOf]; omega
    · obtain rfl : k = n := by omega
      go_wp2
      exact bodyPost_ret (v := .agg #[.int .i64 (lst p k).lo.x, .int .i64 (lst p k).lo.y, .int .i64 (lst p k).lo.z, .int .i64 (lst p k).hi.x, .int .i64 (lst p k).hi.y, .int .i64 (lst p k).hi.z]) (by simp [results, Try.results27, go_sem, ↓IntWalk.iteOmega]) rfl ⟨rfl, by with_reducible repeat (first | exact Below.refl _ _ | apply ba | apply bp | apply bd | apply bn)⟩

end Go.Proofs.Ytondjoilcpcneaa
