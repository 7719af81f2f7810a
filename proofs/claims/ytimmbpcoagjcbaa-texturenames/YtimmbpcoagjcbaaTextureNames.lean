/- TextureNames is proved: the limits and errors have their numbers, and the chapter's examples hold: the call returns true. No condition. -/
import Derived.Test.YtimmbpcoagjcbaaTx5
import Derived.Test.YtimmbpcoagjcbaaTx6
import Derived.Test.YtimmbpcoagjcbaaLaw
import Derived.Deep.DeepCutAuto
import Derived.Test.YtimmbpcoagjcbaaRelGu
import Derived.Laws.MakeOwn
namespace Go.Proofs.Ytimmbpcoagjcbaa
open Go.RowKit Go.ChangeShapes Go.WideShapes Go.ChangeAt
set_option linter.unusedSimpArgs false
set_option linter.unusedVariables false
attribute [local go_sem] plus_size plus_drew dn_set dn_alloc dn_plus plus_dn cell_plus frozen_plus set_plus cell_alloc frozen_alloc set_alloc

attribute [local go_sem] eqC_refl

attribute [local go_sem] colc_23

attribute [local go_sem] cole_23

attribute [local go_sem] coln_23

theorem name_world9 {α : Type} {F : α → World → Prop} {a : α} {w : World} (p : World → Prop) (hp : p w) (h : ∀ w', p w' → F a w') : F a w := h w hp
theorem two_calls' (w : World) : Calls Try.prog 8 #[] w fun e w' => ∃ g y, e = .returned (.agg #[.int .i64 2, .int .i64 1, .slice (some ⟨g, 0, none⟩) 2 2]) ∧ w' = plus w y ∧ Lay fCl (plus w y) (some ⟨g, 0, none⟩) 2 twoL :=
  (two_calls w).mono fun e w' ⟨g, h1, ⟨y, h2⟩, h3⟩ => ⟨g, y, h1, h2, h2 ▸ h3⟩

theorem tchecks_k {ao : Option Addr} {n cap : Nat} {w : World} {k : Int} (h : (16 < n ∧ k = 4) ∨ ∃ hs, Lay fTh w ao n hs ∧ n ≤ 9223372036854775807 ∧ checksT hs = k) :
    Calls Try.prog 11 #[.slice ao n cap] w fun e w' => e = .returned (.int .i64 k) ∧ ∃ y, w' = plus w y := by
  rcases h with ⟨h, rfl⟩ | ⟨hs, hl, hn, rfl⟩
  · have ib : (16 : Int) < (n : Int) := by omega
    go_enter Try.func11, Try.ntmps11
    go_wp2
    go_ret
    exact ⟨rfl, (by with_reducible repeat (first | exact ex_refl _ | exact ex_more9 | apply ex_alloc | apply ex_plus | apply ex_drew | apply ex_drewN))⟩
  · exact tchecks_calls ao n cap hs w hl hn

theorem mk17_34 (w : World) : (Instr.makeSlice 34 (.int .i64 17) (.int .i64 17)).run Try.prog w = .ok (.slice (some ⟨w.heap.size, 0, none⟩) 17 17) (w.alloc (.cells (madeCells (Value.agg #[.int .i64 0, .int .i64 0, .slice none 0 0]).cells 51) 29)) := by
  obtain ⟨i, hi, hz, h1, h2⟩ := info_parts (P := Try.prog) (e := 29) (z := .agg #[.int .i64 0, .int .i64 0, .slice none 0 0]) (size := 3) (bytes := 40) (by kernel_rfl)
  have h := run_makeSlice (P := Try.prog) w 34 29 i (.agg #[.int .i64 0, .int .i64 0, .slice none 0 0]) Try.underlying34 hi hz .i64 .i64 17 17 (by decide) (by decide) (by rw [h1]; decide) (by rw [h2]; decide) (by decide)
  rw [h, h1]
  rfl

attribute [local go_sem] mk17_34

def nmS (i : Nat) : List Nat := match i with | 0 => [28] | 1 => [29] | 2 => [30] | 3 => [31] | 4 => [32] | 5 => [33] | 6 => [34] | 7 => [35] | 8 => [36] | 9 => [37] | 10 => [38] | 11 => [39] | 12 => [40] | 13 => [41] | 14 => [42] | 15 => [43] | 16 => [44] | 17 => [45] | 18 => [46] | 19 => [47] | 20 => [48] | 21 => [49] | 22 => [50] | 23 => [51] | 24 => [52] | 25 => [53] | 26 => [54] | 27 => [55] | 28 => [56] | 29 => [57] | 30 => [58] | 31 => [59] | 32 => [60] | 33 => [61] | 34 => [62] | 35 => [63] | 36 => [64] | 37 => [65] | 38 => [66] | 39 => [67] | 40 => [68] | 41 => [69] | 42 => [70] | 43 => [71] | 44 => [72] | 45 => [73] | 46 => [74] | 47 => [75] | _ => []
def nmΦ (g4 : Nat) (i : Nat) (t : Nat → Value) (w' : World) : Prop := match i with
  | 0 => t 28 = .bool true
  | 1 => t 29 = .bool true
  | 2 => t 30 = .bool true
  | 3 => t 31 = .bool true
  | 4 => t 32 = .int .i64 0
  | 5 => t 33 = .bool true
  | 6 => t 34 = .bool true
  | 7 => t 35 = .bool true
  | 8 => t 36 = .int .i64 0
  | 9 => t 37 = .bool true
  | 10 => t 38 = .bool true
  | 11 => t 39 = .bool true
  | 12 => t 40 = .agg #[.int .u8 255, .int .u8 0, .int .u8 0, .int .u8 255]
  | 13 => t 41 = .agg #[.int .u8 255, .int .u8 0, .int .u8 0, .int .u8 255]
  | 14 => t 42 = .bool true
  | 15 => t 43 = .bool true
  | 16 => t 44 = .bool true
  | 17 => t 45 = .agg #[.int .u8 255, .int .u8 0, .int .u8 0, .int .u8 255]
  | 18 => t 46 = .agg #[.int .u8 255, .int .u8 0, .int .u8 0, .int .u8 255]
  | 19 => t 47 = .bool true
  | 20 => t 48 = .bool true
  | 21 => t 49 = .bool true
  | 22 => t 50 = .int .i64 2
  | 23 => t 51 = .bool true
  | 24 => t 52 = .bool true
  | 25 => t 53 = .bool true
  | 26 => t 54 = .agg #[.int .i64 2, .int .i64 1, .slice (some ⟨g4, 0, none⟩) 1 2]
  | 27 => t 55 = .int .i64 8
  | 28 => t 56 = .bool true
  | 29 => t 57 = .bool true
  | 30 => t 58 = .bool true
  | 31 => ∃ g, t 59 = .slice (some ⟨g, 0, none⟩) 17 17
  | 32 => t 60 = .int .i64 4
  | 33 => t 61 = .bool true
  | 34 => t 62 = .bool true
  | 35 => t 63 = .bool true
  | 36 => ∃ g, t 64 = .agg #[.int .i64 2, .int .i64 1, .slice (some ⟨g, 0, none⟩) 2 2]
  | 37 => t 65 = .agg #[.int .i64 2, .int .i64 1, .slice (some ⟨g4, 0, none⟩) 1 2]
  | 38 => ∃ g g5, t 66 = .slice (some ⟨g, 0, none⟩) 2 2 ∧ Lay fTh w' (some ⟨g, 0, none⟩) 2 [⟨2, 1, some ⟨g5, 0, none⟩, 2, 2⟩, ⟨2, 1, some ⟨g4, 0, none⟩, 1, 2⟩]
  | 39 => t 67 = .int .i64 8
  | 40 => t 68 = .bool true
  | 41 => t 69 = .bool true
  | 42 => t 70 = .bool true
  | 43 => ∃ g, t 71 = .agg #[.int .i64 2, .int .i64 1, .slice (some ⟨g, 0, none⟩) 2 2]
  | 44 => ∃ g g5, t 72 = .slice (some ⟨g, 0, none⟩) 1 1 ∧ Lay fTh w' (some ⟨g, 0, none⟩) 1 [⟨2, 1, some ⟨g5, 0, none⟩, 2, 2⟩]
  | 45 => t 73 = .int .i64 0
  | 46 => t 74 = .bool true
  | 47 => t 75 = .bool true
  | _ => True
theorem nmΦ_mono (g4 : Nat) : ∀ i t t' w' x, nmΦ g4 i t w' → (∀ s ∈ nmS i, t' s = t s) → nmΦ g4 i t' (plus w' x) := by
  intro i t t' w' x h hs'
  match i with
  | 0 => exact (hs' 28 (by decide)).trans h
  | 1 => exact (hs' 29 (by decide)).trans h
  | 2 => exact (hs' 30 (by decide)).trans h
  | 3 => exact (hs' 31 (by decide)).trans h
  | 4 => exact (hs' 32 (by decide)).trans h
  | 5 => exact (hs' 33 (by decide)).trans h
  | 6 => exact (hs' 34 (by decide)).trans h
  | 7 => exact (hs' 35 (by decide)).trans h
  | 8 => exact (hs' 36 (by decide)).trans h
  | 9 => exact (hs' 37 (by decide)).trans h
  | 10 => exact (hs' 38 (by decide)).trans h
  | 11 => exact (hs' 39 (by decide)).trans h
  | 12 => exact (hs' 40 (by decide)).trans h
  | 13 => exact (hs' 41 (by decide)).trans h
  | 14 => exact (hs' 42 (by decide)).trans h
  | 15 => exact (hs' 43 (by decide)).trans h
  | 16 => exact (hs' 44 (by decide)).trans h
  | 17 => exact (hs' 45 (by decide)).trans h
  | 18 => exact (hs' 46 (by decide)).trans h
  | 19 => exact (hs' 47 (by decide)).trans h
  | 20 => exact (hs' 48 (by decide)).trans h
  | 21 => exact (hs' 49 (by decide)).trans h
  | 22 => exact (hs' 50 (by decide)).trans h
  | 23 => exact (hs' 51 (by decide)).trans h
  | 24 => exact (hs' 52 (by decide)).trans h
  | 25 => exact (hs' 53 (by decide)).trans h
  | 26 => exact (hs' 54 (by decide)).trans h
  | 27 => exact (hs' 55 (by decide)).trans h
  | 28 => exact (hs' 56 (by decide)).trans h
  | 29 => exact (hs' 57 (by decide)).trans h
  | 30 => exact (hs' 58 (by decide)).trans h
  | 31 => obtain ⟨g, e⟩ := h; exact ⟨g, (hs' 59 (by decide)).trans e⟩
  | 32 => exact (hs' 60 (by decide)).trans h
  | 33 => exact (hs' 61 (by decide)).trans h
  | 34 => exact (hs' 62 (by decide)).trans h
  | 35 => exact (hs' 63 (by decide)).trans h
  | 36 => obtain ⟨g, e⟩ := h; exact ⟨g, (hs' 64 (by decide)).trans e⟩
  | 37 => exact (hs' 65 (by decide)).trans h
  | 38 => obtain ⟨g, g5, e, o⟩ := h; exact ⟨g, g5, (hs' 66 (by decide)).trans e, o.plus x⟩
  | 39 => exact (hs' 67 (by decide)).trans h
  | 40 => exact (hs' 68 (by decide)).trans h
  | 41 => exact (hs' 69 (by decide)).trans h
  | 42 => exact (hs' 70 (by decide)).trans h
  | 43 => obtain ⟨g, e⟩ := h; exact ⟨g, (hs' 71 (by decide)).trans e⟩
  | 44 => obtain ⟨g, g5, e, o⟩ := h; exact ⟨g, g5, (hs' 72 (by decide)).trans e, o.plus x⟩
  | 45 => exact (hs' 73 (by decide)).trans h
  | 46 => exact (hs' 74 (by decide)).trans h
  | 47 => exact (hs' 75 (by decide)).trans h
  | i + 48 => trivial

set_option maxRecDepth 100000 in
set_option maxHeartbeats 8000000 in
theorem textureNames_walk (w : World) : Calls Try.prog 3 #[] w fun e w' => e = .returned (.bool true) ∧ Below w.heap.size w w' := by
  go_enter Try.func3, Try.ntmps3
  go_upto_region 2 with (first | (go_at_call 8; refine (two_calls' _).mono ?_; rintro e w' ⟨g1, y1, rfl, rfl, hl1⟩) | (go_at_call 7; refine (tat_is (hl1.ex (by with_reducible repeat (first | exact ex_refl _ | exact ex_more9 | apply ex_alloc | apply ex_plus | apply ex_drew | apply ex_drewN | (apply ex_on; assumption)))) (by omega) at_0).mono ?_; rintro e w' ⟨rfl, z1, rfl⟩))
  go_upto_region 3 with (first | (go_at_call 8; refine (two_calls' _).mono ?_; rintro e w' ⟨g2, y2, rfl, rfl, hl2⟩) | (go_at_call 7; refine (tat_is (hl2.ex (by with_reducible repeat (first | exact ex_refl _ | exact ex_more9 | apply ex_alloc | apply ex_plus | apply ex_drew | apply ex_drewN | (apply ex_on; assumption)))) (by omega) at_127).mono ?_; rintro e w' ⟨rfl, z2, rfl⟩))
  go_upto_region 4 with (first | (go_at_call 8; refine (two_calls' _).mono ?_; rintro e w' ⟨g3, y3, rfl, rfl, hl3⟩) | (go_at_call 7; refine (tat_is (hl3.ex (by with_reducible repeat (first | exact ex_refl _ | exact ex_more9 | apply ex_alloc | apply ex_plus | apply ex_drew | apply ex_drewN | (apply ex_on; assumption)))) (by omega) at_256).mono ?_; rintro e w' ⟨rfl, z3, rfl⟩))
  go_upto_region 5 with (go_at_call 8; refine (two_calls' _).mono ?_; rintro e w' ⟨g4, y4, rfl, rfl, hl4⟩)
  go_upto_region 6 with fail
  generalize hb1 : w.heap.size + (blocks y1).size + (blocks z1).size = b1 at *
  generalize hb3 : b1 + 1 + (blocks y2).size + (blocks z2).size = b3 at *
  generalize hb7 : b3 + 1 + (blocks y3).size + (blocks z3).size + 1 + (blocks y4).size = b7 at *
  refine name_world9 (fun w' => (∃ y, w' = plus w y) ∧ (w'.cell? ⟨b1, 0, none⟩ = some (.int .u8 255) ∧ w'.cell? ⟨b1, 1, none⟩ = some (.int .u8 0) ∧ w'.cell? ⟨b1, 2, none⟩ = some (.int .u8 0) ∧ w'.cell? ⟨b1, 3, none⟩ = some (.int .u8 255)) ∧ (w'.cell? ⟨b3, 0, none⟩ = some (.int .u8 255) ∧ w'.cell? ⟨b3, 1, none⟩ = some (.int .u8 0) ∧ w'.cell? ⟨b3, 2, none⟩ = some (.int .u8 0) ∧ w'.cell? ⟨b3, 3, none⟩ = some (.int .u8 255)) ∧ (w'.cell? ⟨b7, 0, none⟩ = some (.int .i64 2) ∧ w'.cell? ⟨b7, 1, none⟩ = some (.int .i64 1) ∧ w'.cell? ⟨b7, 2, none⟩ = some (.slice (some ⟨g4, 0, none⟩) 1 2))) ⟨(by with_reducible repeat (first | exact ex_refl _ | exact ex_more9 | apply ex_alloc | apply ex_plus | apply ex_drew | apply ex_drewN | (apply ex_on; assumption))), ⟨(by simp [go_sem, ↓IntWalk.iteOmega, ← hb1, ← hb3, ← hb7]), (by simp [go_sem, ↓IntWalk.iteOmega, ← hb1, ← hb3, ← hb7]), (by simp [go_sem, ↓IntWalk.iteOmega, ← hb1, ← hb3, ← hb7]), (by simp [go_sem, ↓IntWalk.iteOmega, ← hb1, ← hb3, ← hb7])⟩, ⟨(by simp [go_sem, ↓IntWalk.iteOmega, ← hb1, ← hb3, ← hb7]), (by simp [go_sem, ↓IntWalk.iteOmega, ← hb1, ← hb3, ← hb7]), (by simp [go_sem, ↓IntWalk.iteOmega, ← hb1, ← hb3, ← hb7]), (by simp [go_sem, ↓IntWalk.iteOmega, ← hb1, ← hb3, ← hb7])⟩, ⟨(by simp [go_sem, ↓IntWalk.iteOmega, ← hb1, ← hb3, ← hb7]), (by simp [go_sem, ↓IntWalk.iteOmega, ← hb1, ← hb3, ← hb7]), (by simp [go_sem, ↓IntWalk.iteOmega, ← hb1, ← hb3, ← hb7])⟩⟩ ?_
  rintro wE ⟨hE, ⟨p0, p1, p2, p3⟩, ⟨q0, q1, q2, q3⟩, ⟨t0, t1, t2⟩⟩
  clear hl1 hl2 hl3 hl4 hb1 hb3 hb7
  have k1 := cell_lt p0
  have k2 := cell_lt q0
  have k3 := cell_lt t0
  refine region_relGu 48 nmS (nmΦ g4) (by kernel_rfl) (by kernel_rfl) rfl [(0, 28, true), (3, 31, true), (7, 35, true), (11, 39, true), (16, 44, true), (21, 49, true), (25, 53, true), (30, 58, true), (35, 63, true), (42, 70, true)] (by kernel_rfl) ?guards (nmΦ_mono g4) ?steps ?fin
  case guards =>
    intro q hq t w' h
    simp only [List.mem_cons, List.not_mem_nil, or_false] at hq
    rcases hq with rfl | rfl | rfl | rfl | rfl | rfl | rfl | rfl | rfl | rfl <;> exact h
  case steps =>
    refine ⟨?_, ?_, ?_, ?_, ?_, ?_, ?_, ?_, ?_, ?_, ?_, ?_, ?_, ?_, ?_, ?_, ?_, ?_, ?_, ?_, ?_, ?_, ?_, ?_, ?_, ?_, ?_, ?_, ?_, ?_, ?_, ?_, ?_, ?_, ?_, ?_, ?_, ?_, ?_, ?_, ?_, ?_, ?_, ?_, ?_, ?_, ?_, ?_, trivial⟩
    · intro a w' hg hfree hdeep
      obtain ⟨x, rfl⟩ := hg
      unfold Oper.wp
      simp [go_sem, execOp, Act.eval, ↓IntWalk.iteOmega]
      exact ⟨_, rfl, ex_refl _, by simp [nmΦ, upd]⟩
    · intro a w' hg hfree hdeep
      obtain ⟨x, rfl⟩ := hg
      unfold Oper.wp
      simp [go_sem, execOp, Act.eval, ↓IntWalk.iteOmega]
      refine (alive9_calls _).mono ?_
      rintro e w1 ⟨rfl, hw1⟩
      exact ⟨_, rfl, hw1, by simp [nmΦ, upd]⟩
    · intro a w' hg hfree hdeep
      obtain ⟨x, rfl⟩ := hg
      have d0 := hdeep 0 (by kernel_rfl)
      have d1 := hdeep 1 (by kernel_rfl)
      simp only [nmΦ, got] at d0 d1
      simp at d0 d1
      unfold Oper.wp
      simp [go_sem, execOp, Act.eval, ↓IntWalk.iteOmega, d0, d1]
      exact ⟨_, rfl, ex_refl _, by simp [nmΦ, upd]⟩
    · intro a w' hg hfree hdeep
      obtain ⟨x, rfl⟩ := hg
      have d2 := hdeep 2 (by kernel_rfl)
      simp only [nmΦ, got] at d2
      simp at d2
      unfold Oper.wp
      simp [go_sem, execOp, Act.eval, ↓IntWalk.iteOmega, d2]
      exact ⟨_, rfl, ex_refl _, by simp [nmΦ, upd]⟩
    · intro a w' hg hfree hdeep
      obtain ⟨x, rfl⟩ := hg
      have f2_ := hfree 2 (by kernel_rfl)
      simp only [nmΦ, got] at f2_
      simp [go_sem] at f2_
      unfold Oper.wp
      simp [go_sem, execOp, Act.eval, ↓IntWalk.iteOmega, f2_]
      exact ⟨_, rfl, ex_refl _, by simp [nmΦ, upd]⟩
    · intro a w' hg hfree hdeep
      obtain ⟨x, rfl⟩ := hg
      have d4 := hdeep 4 (by kernel_rfl)
      simp only [nmΦ, got] at d4
      simp at d4
      unfold Oper.wp
      simp [go_sem, execOp, Act.eval, ↓IntWalk.iteOmega, d4]
      exact ⟨_, rfl, ex_refl _, by simp [nmΦ, upd]⟩
    · intro a w' hg hfree hdeep
      obtain ⟨x, rfl⟩ := hg
      have d3 := hdeep 3 (by kernel_rfl)
      have d5 := hdeep 5 (by kernel_rfl)
      simp only [nmΦ, got] at d3 d5
      simp at d3 d5
      unfold Oper.wp
      simp [go_sem, execOp, Act.eval, ↓IntWalk.iteOmega, d3, d5]
      exact ⟨_, rfl, ex_refl _, by simp [nmΦ, upd]⟩
    · intro a w' hg hfree hdeep
      obtain ⟨x, rfl⟩ := hg
      have d6 := hdeep 6 (by kernel_rfl)
      simp only [nmΦ, got] at d6
      simp at d6
      unfold Oper.wp
      simp [go_sem, execOp, Act.eval, ↓IntWalk.iteOmega, d6]
      exact ⟨_, rfl, ex_refl _, by simp [nmΦ, upd]⟩
    · intro a w' hg hfree hdeep
      obtain ⟨x, rfl⟩ := hg
      have f4_ := hfree 4 (by kernel_rfl)
      simp only [nmΦ, got] at f4_
      simp [go_sem] at f4_
      unfold Oper.wp
      simp [go_sem, execOp, Act.eval, ↓IntWalk.iteOmega, f4_]
      exact ⟨_, rfl, ex_refl _, by simp [nmΦ, upd]⟩
    · intro a w' hg hfree hdeep
      obtain ⟨x, rfl⟩ := hg
      have d8 := hdeep 8 (by kernel_rfl)
      simp only [nmΦ, got] at d8
      simp at d8
      unfold Oper.wp
      simp [go_sem, execOp, Act.eval, ↓IntWalk.iteOmega, d8]
      exact ⟨_, rfl, ex_refl _, by simp [nmΦ, upd]⟩
    · intro a w' hg hfree hdeep
      obtain ⟨x, rfl⟩ := hg
      have d7 := hdeep 7 (by kernel_rfl)
      have d9 := hdeep 9 (by kernel_rfl)
      simp only [nmΦ, got] at d7 d9
      simp at d7 d9
      unfold Oper.wp
      simp [go_sem, execOp, Act.eval, ↓IntWalk.iteOmega, d7, d9]
      exact ⟨_, rfl, ex_refl _, by simp [nmΦ, upd]⟩
    · intro a w' hg hfree hdeep
      obtain ⟨x, rfl⟩ := hg
      have d10 := hdeep 10 (by kernel_rfl)
      simp only [nmΦ, got] at d10
      simp at d10
      unfold Oper.wp
      simp [go_sem, execOp, Act.eval, ↓IntWalk.iteOmega, d10]
      exact ⟨_, rfl, ex_refl _, by simp [nmΦ, upd]⟩
    · intro a w' hg hfree hdeep
      obtain ⟨x, rfl⟩ := hg
      have f1_ := hfree 1 (by kernel_rfl)
      simp only [nmΦ, got] at f1_
      simp [go_sem] at f1_
      unfold Oper.wp
      simp [go_sem, execOp, Act.eval, ↓IntWalk.iteOmega, f1_, p0, p1, p2, p3]
      exact ⟨_, rfl, ex_refl _, by simp [nmΦ, upd]⟩
    · intro a w' hg hfree hdeep
      obtain ⟨x, rfl⟩ := hg
      unfold Oper.wp
      simp [go_sem, execOp, Act.eval, ↓IntWalk.iteOmega]
      exact ⟨_, rfl, ex_refl _, by simp [nmΦ, upd]⟩
    · intro a w' hg hfree hdeep
      obtain ⟨x, rfl⟩ := hg
      have d12 := hdeep 12 (by kernel_rfl)
      have d13 := hdeep 13 (by kernel_rfl)
      simp only [nmΦ, got] at d12 d13
      simp at d12 d13
      unfold Oper.wp
      simp [go_sem, execOp, Act.eval, ↓IntWalk.iteOmega, d12, d13]
      exact ⟨_, rfl, ex_refl _, by simp [nmΦ, upd]⟩
    · intro a w' hg hfree hdeep
      obtain ⟨x, rfl⟩ := hg
      have d11 := hdeep 11 (by kernel_rfl)
      have d14 := hdeep 14 (by kernel_rfl)
      simp only [nmΦ, got] at d11 d14
      simp at d11 d14
      unfold Oper.wp
      simp [go_sem, execOp, Act.eval, ↓IntWalk.iteOmega, d11, d14]
      exact ⟨_, rfl, ex_refl _, by simp [nmΦ, upd]⟩
    · intro a w' hg hfree hdeep
      obtain ⟨x, rfl⟩ := hg
      have d15 := hdeep 15 (by kernel_rfl)
      simp only [nmΦ, got] at d15
      simp at d15
      unfold Oper.wp
      simp [go_sem, execOp, Act.eval, ↓IntWalk.iteOmega, d15]
      exact ⟨_, rfl, ex_refl _, by simp [nmΦ, upd]⟩
    · intro a w' hg hfree hdeep
      obtain ⟨x, rfl⟩ := hg
      have f3_ := hfree 3 (by kernel_rfl)
      simp only [nmΦ, got] at f3_
      simp [go_sem] at f3_
      unfold Oper.wp
      simp [go_sem, execOp, Act.eval, ↓IntWalk.iteOmega, f3_, q0, q1, q2, q3]
      exact ⟨_, rfl, ex_refl _, by simp [nmΦ, upd]⟩
    · intro a w' hg hfree hdeep
      obtain ⟨x, rfl⟩ := hg
      have f1_ := hfree 1 (by kernel_rfl)
      simp only [nmΦ, got] at f1_
      simp [go_sem] at f1_
      unfold Oper.wp
      simp [go_sem, execOp, Act.eval, ↓IntWalk.iteOmega, f1_, p0, p1, p2, p3]
      exact ⟨_, rfl, ex_refl _, by simp [nmΦ, upd]⟩
    · intro a w' hg hfree hdeep
      obtain ⟨x, rfl⟩ := hg
      have d17 := hdeep 17 (by kernel_rfl)
      have d18 := hdeep 18 (by kernel_rfl)
      simp only [nmΦ, got] at d17 d18
      simp at d17 d18
      unfold Oper.wp
      simp [go_sem, execOp, Act.eval, ↓IntWalk.iteOmega, d17, d18]
      exact ⟨_, rfl, ex_refl _, by simp [nmΦ, upd]⟩
    · intro a w' hg hfree hdeep
      obtain ⟨x, rfl⟩ := hg
      have d16 := hdeep 16 (by kernel_rfl)
      have d19 := hdeep 19 (by kernel_rfl)
      simp only [nmΦ, got] at d16 d19
      simp at d16 d19
      unfold Oper.wp
      simp [go_sem, execOp, Act.eval, ↓IntWalk.iteOmega, d16, d19]
      exact ⟨_, rfl, ex_refl _, by simp [nmΦ, upd]⟩
    · intro a w' hg hfree hdeep
      obtain ⟨x, rfl⟩ := hg
      have d20 := hdeep 20 (by kernel_rfl)
      simp only [nmΦ, got] at d20
      simp at d20
      unfold Oper.wp
      simp [go_sem, execOp, Act.eval, ↓IntWalk.iteOmega, d20]
      exact ⟨_, rfl, ex_refl _, by simp [nmΦ, upd]⟩
    · intro a w' hg hfree hdeep
      obtain ⟨x, rfl⟩ := hg
      have f6_ := hfree 6 (by kernel_rfl)
      simp only [nmΦ, got] at f6_
      simp [go_sem] at f6_
      unfold Oper.wp
      simp [go_sem, execOp, Act.eval, ↓IntWalk.iteOmega, f6_]
      exact ⟨_, rfl, ex_refl _, by simp [nmΦ, upd]⟩
    · intro a w' hg hfree hdeep
      obtain ⟨x, rfl⟩ := hg
      have d22 := hdeep 22 (by kernel_rfl)
      simp only [nmΦ, got] at d22
      simp at d22
      unfold Oper.wp
      simp [go_sem, execOp, Act.eval, ↓IntWalk.iteOmega, d22]
      exact ⟨_, rfl, ex_refl _, by simp [nmΦ, upd]⟩
    · intro a w' hg hfree hdeep
      obtain ⟨x, rfl⟩ := hg
      have d21 := hdeep 21 (by kernel_rfl)
      have d23 := hdeep 23 (by kernel_rfl)
      simp only [nmΦ, got] at d21 d23
      simp at d21 d23
      unfold Oper.wp
      simp [go_sem, execOp, Act.eval, ↓IntWalk.iteOmega, d21, d23]
      exact ⟨_, rfl, ex_refl _, by simp [nmΦ, upd]⟩
    · intro a w' hg hfree hdeep
      obtain ⟨x, rfl⟩ := hg
      have d24 := hdeep 24 (by kernel_rfl)
      simp only [nmΦ, got] at d24
      simp at d24
      unfold Oper.wp
      simp [go_sem, execOp, Act.eval, ↓IntWalk.iteOmega, d24]
      exact ⟨_, rfl, ex_refl _, by simp [nmΦ, upd]⟩
    · intro a w' hg hfree hdeep
      obtain ⟨x, rfl⟩ := hg
      have f7_ := hfree 7 (by kernel_rfl)
      simp only [nmΦ, got] at f7_
      simp [go_sem] at f7_
      unfold Oper.wp
      simp [go_sem, execOp, Act.eval, ↓IntWalk.iteOmega, f7_, t0, t1, t2]
      exact ⟨_, rfl, ex_refl _, by simp [nmΦ, upd]⟩
    · intro a w' hg hfree hdeep
      obtain ⟨x, rfl⟩ := hg
      have d26 := hdeep 26 (by kernel_rfl)
      simp only [nmΦ, got] at d26
      simp at d26
      unfold Oper.wp
      simp [go_sem, execOp, Act.eval, ↓IntWalk.iteOmega, d26]
      refine (tcheck_is (show errT 2 1 1 = 8 from rfl)).mono ?_
      rintro e w1 ⟨rfl, hw1⟩
      exact ⟨_, rfl, hw1, by simp [nmΦ, upd]⟩
    · intro a w' hg hfree hdeep
      obtain ⟨x, rfl⟩ := hg
      have d27 := hdeep 27 (by kernel_rfl)
      simp only [nmΦ, got] at d27
      simp at d27
      unfold Oper.wp
      simp [go_sem, execOp, Act.eval, ↓IntWalk.iteOmega, d27]
      exact ⟨_, rfl, ex_refl _, by simp [nmΦ, upd]⟩
    · intro a w' hg hfree hdeep
      obtain ⟨x, rfl⟩ := hg
      have d25 := hdeep 25 (by kernel_rfl)
      have d28 := hdeep 28 (by kernel_rfl)
      simp only [nmΦ, got] at d25 d28
      simp at d25 d28
      unfold Oper.wp
      simp [go_sem, execOp, Act.eval, ↓IntWalk.iteOmega, d25, d28]
      exact ⟨_, rfl, ex_refl _, by simp [nmΦ, upd]⟩
    · intro a w' hg hfree hdeep
      obtain ⟨x, rfl⟩ := hg
      have d29 := hdeep 29 (by kernel_rfl)
      simp only [nmΦ, got] at d29
      simp at d29
      unfold Oper.wp
      simp [go_sem, execOp, Act.eval, ↓IntWalk.iteOmega, d29]
      exact ⟨_, rfl, ex_refl _, by simp [nmΦ, upd]⟩
    · intro a w' hg hfree hdeep
      obtain ⟨x, rfl⟩ := hg
      unfold Oper.wp
      simp [go_sem, execOp, Act.eval, ↓IntWalk.iteOmega]
      exact ⟨_, rfl, ex_alloc (ex_refl _), _, by simp [upd]; rfl⟩
    · intro a w' hg hfree hdeep
      obtain ⟨x, rfl⟩ := hg
      obtain ⟨g31, q31⟩ : ∃ g, got a 59 = .slice (some ⟨g, 0, none⟩) 17 17 := hdeep 31 (by kernel_rfl)
      simp only [nmΦ, got] at q31
      simp at q31
      unfold Oper.wp
      simp [go_sem, execOp, Act.eval, ↓IntWalk.iteOmega, q31, q31]
      refine (tchecks_k (.inl ⟨by decide, rfl⟩)).mono ?_
      rintro e w1 ⟨rfl, hw1⟩
      exact ⟨_, rfl, hw1, by simp [nmΦ, upd]⟩
    · intro a w' hg hfree hdeep
      obtain ⟨x, rfl⟩ := hg
      have d32 := hdeep 32 (by kernel_rfl)
      simp only [nmΦ, got] at d32
      simp at d32
      unfold Oper.wp
      simp [go_sem, execOp, Act.eval, ↓IntWalk.iteOmega, d32]
      exact ⟨_, rfl, ex_refl _, by simp [nmΦ, upd]⟩
    · intro a w' hg hfree hdeep
      obtain ⟨x, rfl⟩ := hg
      have d30 := hdeep 30 (by kernel_rfl)
      have d33 := hdeep 33 (by kernel_rfl)
      simp only [nmΦ, got] at d30 d33
      simp at d30 d33
      unfold Oper.wp
      simp [go_sem, execOp, Act.eval, ↓IntWalk.iteOmega, d30, d33]
      exact ⟨_, rfl, ex_refl _, by simp [nmΦ, upd]⟩
    · intro a w' hg hfree hdeep
      obtain ⟨x, rfl⟩ := hg
      have d34 := hdeep 34 (by kernel_rfl)
      simp only [nmΦ, got] at d34
      simp at d34
      unfold Oper.wp
      simp [go_sem, execOp, Act.eval, ↓IntWalk.iteOmega, d34]
      exact ⟨_, rfl, ex_refl _, by simp [nmΦ, upd]⟩
    · intro a w' hg hfree hdeep
      obtain ⟨x, rfl⟩ := hg
      unfold Oper.wp
      simp [go_sem, execOp, Act.eval, ↓IntWalk.iteOmega]
      refine (two_calls _).mono ?_
      rintro e w1 ⟨g9, rfl, hw1, _⟩
      exact ⟨_, rfl, hw1, g9, by simp [upd]⟩
    · intro a w' hg hfree hdeep
      obtain ⟨x, rfl⟩ := hg
      have f7_ := hfree 7 (by kernel_rfl)
      simp only [nmΦ, got] at f7_
      simp [go_sem] at f7_
      unfold Oper.wp
      simp [go_sem, execOp, Act.eval, ↓IntWalk.iteOmega, f7_, t0, t1, t2]
      exact ⟨_, rfl, ex_refl _, by simp [nmΦ, upd]⟩
    · intro a w' hg hfree hdeep
      obtain ⟨x, rfl⟩ := hg
      have d37 := hdeep 37 (by kernel_rfl)
      obtain ⟨g36, q36⟩ : ∃ g, got a 64 = .agg #[.int .i64 2, .int .i64 1, .slice (some ⟨g, 0, none⟩) 2 2] := hdeep 36 (by kernel_rfl)
      simp only [nmΦ, got] at d37 q36
      simp at d37
      simp at q36
      unfold Oper.wp
      simp [go_sem, execOp, Act.eval, ↓IntWalk.iteOmega, d37, q36, q36]
      exact ⟨_, rfl, ex_alloc (ex_refl _), _, g36, by simp [upd]; rfl, ⟨rfl, .inr ⟨_, 0, rfl, by simp [go_sem]; try omega, fun jj u hu => by match jj, hu with | 0, hu => (simp [fTh] at hu <;> (subst hu; simp [go_sem, ↓IntWalk.iteOmega])) | 1, hu => (simp [fTh] at hu <;> (subst hu; simp [go_sem, ↓IntWalk.iteOmega])) | 2, hu => (simp [fTh] at hu <;> (subst hu; simp [go_sem, ↓IntWalk.iteOmega])) | 3, hu => (simp [fTh] at hu <;> (subst hu; simp [go_sem, ↓IntWalk.iteOmega])) | 4, hu => (simp [fTh] at hu <;> (subst hu; simp [go_sem, ↓IntWalk.iteOmega])) | 5, hu => (simp [fTh] at hu <;> (subst hu; simp [go_sem, ↓IntWalk.iteOmega])) | jj + 6, hu => simp [fTh] at hu⟩⟩⟩
    · intro a w' hg hfree hdeep
      obtain ⟨x, rfl⟩ := hg
      obtain ⟨g38, k38, q38, l38⟩ : ∃ g g5, got a 66 = .slice (some ⟨g, 0, none⟩) 2 2 ∧ Lay fTh (plus wE x) (some ⟨g, 0, none⟩) 2 [⟨2, 1, some ⟨g5, 0, none⟩, 2, 2⟩, ⟨2, 1, some ⟨g4, 0, none⟩, 1, 2⟩] := hdeep 38 (by kernel_rfl)
      simp only [nmΦ, got] at q38
      simp at q38
      unfold Oper.wp
      simp [go_sem, execOp, Act.eval, ↓IntWalk.iteOmega, q38, q38]
      refine (tchecks_k (k := 8) (.inr ⟨_, l38, by decide, by rfl⟩)).mono ?_
      rintro e w1 ⟨rfl, hw1⟩
      exact ⟨_, rfl, hw1, by simp [nmΦ, upd]⟩
    · intro a w' hg hfree hdeep
      obtain ⟨x, rfl⟩ := hg
      have d39 := hdeep 39 (by kernel_rfl)
      simp only [nmΦ, got] at d39
      simp at d39
      unfold Oper.wp
      simp [go_sem, execOp, Act.eval, ↓IntWalk.iteOmega, d39]
      exact ⟨_, rfl, ex_refl _, by simp [nmΦ, upd]⟩
    · intro a w' hg hfree hdeep
      obtain ⟨x, rfl⟩ := hg
      have d35 := hdeep 35 (by kernel_rfl)
      have d40 := hdeep 40 (by kernel_rfl)
      simp only [nmΦ, got] at d35 d40
      simp at d35 d40
      unfold Oper.wp
      simp [go_sem, execOp, Act.eval, ↓IntWalk.iteOmega, d35, d40]
      exact ⟨_, rfl, ex_refl _, by simp [nmΦ, upd]⟩
    · intro a w' hg hfree hdeep
      obtain ⟨x, rfl⟩ := hg
      have d41 := hdeep 41 (by kernel_rfl)
      simp only [nmΦ, got] at d41
      simp at d41
      unfold Oper.wp
      simp [go_sem, execOp, Act.eval, ↓IntWalk.iteOmega, d41]
      exact ⟨_, rfl, ex_refl _, by simp [nmΦ, upd]⟩
    · intro a w' hg hfree hdeep
      obtain ⟨x, rfl⟩ := hg
      unfold Oper.wp
      simp [go_sem, execOp, Act.eval, ↓IntWalk.iteOmega]
      refine (two_calls _).mono ?_
      rintro e w1 ⟨g9, rfl, hw1, _⟩
      exact ⟨_, rfl, hw1, g9, by simp [upd]⟩
    · intro a w' hg hfree hdeep
      obtain ⟨x, rfl⟩ := hg
      obtain ⟨g43, q43⟩ : ∃ g, got a 71 = .agg #[.int .i64 2, .int .i64 1, .slice (some ⟨g, 0, none⟩) 2 2] := hdeep 43 (by kernel_rfl)
      simp only [nmΦ, got] at q43
      simp at q43
      unfold Oper.wp
      simp [go_sem, execOp, Act.eval, ↓IntWalk.iteOmega, q43, q43]
      exact ⟨_, rfl, ex_alloc (ex_refl _), _, g43, by simp [upd]; rfl, ⟨rfl, .inr ⟨_, 0, rfl, by simp [go_sem]; try omega, fun jj u hu => by match jj, hu with | 0, hu => (simp [fTh] at hu <;> (subst hu; simp [go_sem, ↓IntWalk.iteOmega])) | 1, hu => (simp [fTh] at hu <;> (subst hu; simp [go_sem, ↓IntWalk.iteOmega])) | 2, hu => (simp [fTh] at hu <;> (subst hu; simp [go_sem, ↓IntWalk.iteOmega])) | jj + 3, hu => simp [fTh] at hu⟩⟩⟩
    · intro a w' hg hfree hdeep
      obtain ⟨x, rfl⟩ := hg
      obtain ⟨g44, k44, q44, l44⟩ : ∃ g g5, got a 72 = .slice (some ⟨g, 0, none⟩) 1 1 ∧ Lay fTh (plus wE x) (some ⟨g, 0, none⟩) 1 [⟨2, 1, some ⟨g5, 0, none⟩, 2, 2⟩] := hdeep 44 (by kernel_rfl)
      simp only [nmΦ, got] at q44
      simp at q44
      unfold Oper.wp
      simp [go_sem, execOp, Act.eval, ↓IntWalk.iteOmega, q44, q44]
      refine (tchecks_k (k := 0) (.inr ⟨_, l44, by decide, by rfl⟩)).mono ?_
      rintro e w1 ⟨rfl, hw1⟩
      exact ⟨_, rfl, hw1, by simp [nmΦ, upd]⟩
    · intro a w' hg hfree hdeep
      obtain ⟨x, rfl⟩ := hg
      have d45 := hdeep 45 (by kernel_rfl)
      simp only [nmΦ, got] at d45
      simp at d45
      unfold Oper.wp
      simp [go_sem, execOp, Act.eval, ↓IntWalk.iteOmega, d45]
      exact ⟨_, rfl, ex_refl _, by simp [nmΦ, upd]⟩
    · intro a w' hg hfree hdeep
      obtain ⟨x, rfl⟩ := hg
      have d42 := hdeep 42 (by kernel_rfl)
      have d46 := hdeep 46 (by kernel_rfl)
      simp only [nmΦ, got] at d42 d46
      simp at d42 d46
      unfold Oper.wp
      simp [go_sem, execOp, Act.eval, ↓IntWalk.iteOmega, d42, d46]
      exact ⟨_, rfl, ex_refl _, by simp [nmΦ, upd]⟩
  case fin =>
    rintro t w' ⟨x9, rfl⟩ hΦ o ho
    have h47 := hΦ 47 (by decide)
    simp only [nmΦ] at h47
    simp only [List.getElem?_cons_succ, List.getElem?_cons_zero, Option.some.injEq] at ho
    subst ho
    simp only [putAll, List.take_succ_cons, List.take_zero, h47]
    simp only [Act.put]
    simp only [List.setIfInBounds_toArray, List.set_cons_succ, List.set_cons_zero]
    unfold Oper.wp
    simp [go_sem, execOp, Act.eval]
    clear hΦ
    go_wp2
    go_ret
    exact ⟨rfl, below_ex (by with_reducible repeat (first | exact ex_refl _ | exact ex_more9 | apply ex_alloc | apply ex_plus | apply ex_drew | apply ex_drewN | (apply ex_on; assumption)))⟩

set_option maxRecDepth 100000 in
theorem textureNames_lifted (os : Os) (started : os.Started) (H : Type) (enc : TypeId × Value → H) :
    ReturnsInHanded {} Try.checked os 3 .any (Rows.textureNamesSpec.pre6 enc Try.prog Try.f3 Rows.textureNamesRow.domain false) (Rows.textureNamesSpec.post enc Try.prog Try.f3 false true false false) := by
  refine returnsInHanded_of_change (C := Try.checked) own started (by kernel_rfl) Try.func3
    (ChangeSpec.witness6 (enc := enc) (C := Try.checked) false ⟨#[], #[], []⟩ 8 (by kernel_rfl) (by kernel_rfl) (by kernel_rfl) (by kernel_rfl)) ?_
  intro W base args ds gs before hval0 hW hcnd _
  have hval : ∀ (j : Nat) t v, Try.f3.params[j]? = some t → args[j]? = some v → Value.okWide Try.prog W .any base t v := hval0
  have hW' := hW
  obtain ⟨p, q, hA0, hV, rfl, hfz, hnd⟩ := hW
  have hA : DataW.TrodAll enc Try.prog W 0 (fun _ => true) true Try.f3.params.toList args.toList ds p := hA0
  rw [Try.params3] at hA hval
  obtain ⟨hargs, rfl, rfl⟩ := trodAll_nil hA
  obtain rfl : args = #[] := by cases args; simp_all
  refine (textureNames_walk   W ).mono fun e W' ⟨he, hb⟩ => ?_
  exact ⟨_, he, law_post laidOut Try.underlying4 rfl (by kernel_rfl) (by kernel_rfl) (fun ds h => match ds, h with | [], _ => rfl) hW' hb⟩

theorem textureNames_holds : Rows.TextureNamesSaid :=
  OpenClaim.holds_of_wide 3 Try.f3 rfl rfl rfl rfl rfl rfl rfl ⟨rfl, rfl, rfl, rfl, rfl⟩ rfl rfl rfl rfl rfl (by kernel_rfl) Try.func3 (by kernel_rfl)
    (of_decide_eq_true (by kernel_rfl)) (by unfold Func.isWrapper; first | (rw [if_pos (by decide +kernel)]; kernel_rfl) | (rw [if_neg (by decide +kernel)]; exact ⟨rfl, rfl⟩))
    (fun os started H enc _ => textureNames_lifted os started H enc)
#print axioms textureNames_holds
end Go.Proofs.Ytimmbpcoagjcbaa
