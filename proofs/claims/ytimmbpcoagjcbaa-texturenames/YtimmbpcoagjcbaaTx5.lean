/- What slices.Clone of colours, and Twin, give. -/
import Derived.Test.YtimmbpcoagjcbaaTx2
import Derived.Test.YtimmbpcoagjcbaaOwn2
import Derived.Test.YtimmbpcoagjcbaaRel
namespace Go.Proofs.Ytimmbpcoagjcbaa
open Go.RowKit Go.ChangeShapes Go.WideShapes Go.ChangeAt
set_option linter.unusedSimpArgs false
set_option linter.unusedVariables false
attribute [local go_sem] plus_size plus_drew dn_set dn_alloc dn_plus plus_dn cell_plus frozen_plus set_plus cell_alloc frozen_alloc set_alloc

theorem info_parts9 {P : Program} {e : TypeId} {z : Value} {c b : Nat} (h : (P.info? e).map (fun i => (i.zero, i.size, i.bytes)) = some (some z, c, b)) (hc : z.cells.size = c) : ∃ i z, P.info? e = some i ∧ i.zero = some z ∧ i.size = c ∧ i.bytes = b ∧ z.cells.size = c := by
  obtain ⟨i0, hi, hz0, hz1, hz2⟩ := info_parts h
  exact ⟨i0, z, hi, hz0, hz1, hz2, hc⟩
theorem kinC : Kin Try.prog 27 23 4 4 := ⟨Try.underlying27, info_parts9 (z := .agg #[.int .u8 0, .int .u8 0, .int .u8 0, .int .u8 0]) (by kernel_rfl) rfl, by decide⟩

theorem isnil_27 (ao : Option Addr) (n cap : Nat) (w : World) : (binOp .eql 27 (.slice ao n cap) (.slice none 0 0)).run Try.prog w = .ok (.bool ao.isNone) w := Lib.run_eql_slice_nil w _ _ ao n cap 0 0 Try.underlying27

attribute [local go_sem] isnil_27

theorem cloneC (ao : Option Addr) (n cap : Nat) (l : List Cl) (w : World) (hl : Lay fCl w ao n l) (hn : n ≤ 20000) (hz : ao = none → cap = 0) :
    Calls Try.prog 23 #[.slice ao n cap] w fun e w' => RetO 23 4 fCl w l e w' := by
  cases ao with
  | none =>
    obtain rfl : n = 0 := by rcases hl.at0 with h | ⟨g, off, h, _⟩; exact h; cases h
    obtain rfl := hz rfl
    obtain rfl := hl.zero
    go_enter Try.func23, Try.ntmps23
    go_wp2
    go_ret
    exact ⟨none, 0, 0, rfl, (by with_reducible repeat (first | exact ex_refl _ | exact ex_more9 | apply ex_alloc | apply ex_plus | apply ex_drew | apply ex_drewN)), own_nil⟩
  | some a =>
    go_enter Try.func23, Try.ntmps23
    go_wp2_with (at_builtin; (refine wpList_append_lay (T := w) (l := []) rfl _ _ rfl kinC fCl_c fCl_1 rfl (by with_reducible repeat (first | exact ex_refl _ | exact ex_more9 | apply ex_alloc | apply ex_plus | apply ex_drew | apply ex_drewN)) ⟨rfl, World.ownsRow_made w _ 0 (Nat.le_refl _) (by decide) rfl⟩ rfl (hl.ex (by with_reducible repeat (first | exact ex_refl _ | exact ex_more9 | apply ex_alloc | apply ex_plus | apply ex_drew | apply ex_drewN))) (by omega) (by decide) ?_; intro ao' cap' y' hown'))
    go_ret
    rw [Nat.zero_add, List.nil_append] at hown'
    exact ⟨ao', _, cap', rfl, (by with_reducible repeat (first | exact ex_refl _ | exact ex_more9 | apply ex_alloc | apply ex_plus | apply ex_drew | apply ex_drewN)), hown'⟩

def ttS (i : Nat) : List Nat := match i with | 0 => [3] | 1 => [4] | 2 => [5] | 3 => [6] | 4 => [7] | 5 => [8] | 6 => [9] | 7 => [10, 9] | _ => []
def ttΦ (w T : World) (W H : Int) (ao : Option Addr) (n cap : Nat) (l : List Cl) (i : Nat) (t : Nat → Value) (w' : World) : Prop := match i with
  | 0 => t 3 = .pointer (some ⟨w.heap.size, 0, none⟩)
  | 1 => t 4 = .int .i64 W
  | 2 => t 5 = .pointer (some ⟨w.heap.size, 1, none⟩)
  | 3 => t 6 = .int .i64 H
  | 4 => t 7 = .pointer (some ⟨w.heap.size, 2, none⟩)
  | 5 => t 8 = .slice ao n cap
  | 6 => ∃ a c, t 9 = .slice a n c ∧ Own 23 4 fCl T w' a n c l
  | 7 => ∃ a c, t 10 = .agg #[.int .i64 W, .int .i64 H, .slice a n c] ∧ t 9 = .slice a n c
  | _ => True
theorem ttΦ_mono (w T : World) (W H : Int) (ao : Option Addr) (n cap : Nat) (l : List Cl) : ∀ i t t' w' x, ttΦ w T W H ao n cap l i t w' → (∀ s ∈ ttS i, t' s = t s) → ttΦ w T W H ao n cap l i t' (plus w' x) := by
  intro i t t' w' x h hs'
  match i with
  | 0 => exact (hs' 3 (by decide)).trans h
  | 1 => exact (hs' 4 (by decide)).trans h
  | 2 => exact (hs' 5 (by decide)).trans h
  | 3 => exact (hs' 6 (by decide)).trans h
  | 4 => exact (hs' 7 (by decide)).trans h
  | 5 => exact (hs' 8 (by decide)).trans h
  | 6 => obtain ⟨a, c, e, o⟩ := h; exact ⟨a, c, (hs' 9 (by decide)).trans e, o.plus x⟩
  | 7 => obtain ⟨a, c, e1, e2⟩ := h; exact ⟨a, c, (hs' 10 (by decide)).trans e1, (hs' 9 (by decide)).trans e2⟩
  | i + 8 => trivial

set_option maxHeartbeats 2000000 in
theorem ttwin_calls (W H : Int) (ao : Option Addr) (n cap : Nat) (l : List Cl) (w : World) (hl : Lay fCl w ao n l) (hn : n ≤ 20000) (hz : ao = none → cap = 0) :
    Calls Try.prog 15 #[.agg #[.int .i64 W, .int .i64 H, .slice ao n cap]] w fun e w' => ∃ ao' cap', e = .returned (.agg #[.int .i64 W, .int .i64 H, .slice ao' n cap']) ∧ (∃ y, w' = plus w y) ∧ Own 23 4 fCl w w' ao' n cap' l := by
  go_enter Try.func15, Try.ntmps15
  go_wp2
  refine region_rel 8 ttS (ttΦ w ((w.alloc (.cells #[.int .i64 W, .int .i64 H, .slice ao n cap] 29)).alloc (.cells #[.int .i64 0, .int .i64 0, .slice none 0 0] 29)) W H ao n cap l) (by kernel_rfl) (by kernel_rfl) rfl (ttΦ_mono w ((w.alloc (.cells #[.int .i64 W, .int .i64 H, .slice ao n cap] 29)).alloc (.cells #[.int .i64 0, .int .i64 0, .slice none 0 0] 29)) W H ao n cap l) ?steps ?fin
  case steps =>
    refine ⟨?_, ?_, ?_, ?_, ?_, ?_, ?_, ?_, trivial⟩
    · intro a w' hg hfree hdeep
      obtain ⟨x, rfl⟩ := hg
      have f1_ := hfree 1 (by kernel_rfl)
      simp only [ttΦ, got] at f1_
      simp [go_sem] at f1_
      unfold Oper.wp
      simp [go_sem, execOp, Act.eval, ↓IntWalk.iteOmega, f1_]
      exact ⟨_, rfl, ex_refl _, by simp [ttΦ, upd]⟩
    · intro a w' hg hfree hdeep
      obtain ⟨x, rfl⟩ := hg
      have d0 := hdeep 0 (by kernel_rfl)
      simp only [ttΦ, got] at d0
      unfold Oper.wp
      simp [go_sem, execOp, Act.eval, ↓IntWalk.iteOmega, d0]
      exact ⟨_, rfl, ex_refl _, by simp [ttΦ, upd]⟩
    · intro a w' hg hfree hdeep
      obtain ⟨x, rfl⟩ := hg
      have f1_ := hfree 1 (by kernel_rfl)
      simp only [ttΦ, got] at f1_
      simp [go_sem] at f1_
      unfold Oper.wp
      simp [go_sem, execOp, Act.eval, ↓IntWalk.iteOmega, f1_]
      exact ⟨_, rfl, ex_refl _, by simp [ttΦ, upd]⟩
    · intro a w' hg hfree hdeep
      obtain ⟨x, rfl⟩ := hg
      have d2 := hdeep 2 (by kernel_rfl)
      simp only [ttΦ, got] at d2
      unfold Oper.wp
      simp [go_sem, execOp, Act.eval, ↓IntWalk.iteOmega, d2]
      exact ⟨_, rfl, ex_refl _, by simp [ttΦ, upd]⟩
    · intro a w' hg hfree hdeep
      obtain ⟨x, rfl⟩ := hg
      have f1_ := hfree 1 (by kernel_rfl)
      simp only [ttΦ, got] at f1_
      simp [go_sem] at f1_
      unfold Oper.wp
      simp [go_sem, execOp, Act.eval, ↓IntWalk.iteOmega, f1_]
      exact ⟨_, rfl, ex_refl _, by simp [ttΦ, upd]⟩
    · intro a w' hg hfree hdeep
      obtain ⟨x, rfl⟩ := hg
      have d4 := hdeep 4 (by kernel_rfl)
      simp only [ttΦ, got] at d4
      unfold Oper.wp
      simp [go_sem, execOp, Act.eval, ↓IntWalk.iteOmega, d4]
      exact ⟨_, rfl, ex_refl _, by simp [ttΦ, upd]⟩
    · intro a w' hg hfree hdeep
      obtain ⟨x, rfl⟩ := hg
      have d5 := hdeep 5 (by kernel_rfl)
      simp only [ttΦ, got] at d5
      unfold Oper.wp
      simp [go_sem, execOp, Act.eval, ↓IntWalk.iteOmega, d5]
      refine (cloneC _ _ _ l _ (hl.ex (by with_reducible repeat (first | exact ex_refl _ | exact ex_more9 | apply ex_alloc | apply ex_plus | apply ex_drew | apply ex_drewN))) hn hz).mono ?_
      rintro e w1 ⟨a1, n1, c1, rfl, hw1, o1⟩
      obtain rfl : n = n1 := hl.len.symm.trans o1.1
      exact ⟨_, rfl, hw1, a1, c1, by simp [upd], o1.base (by rw [plus_size]; omega)⟩
    · intro a w' hg hfree hdeep
      obtain ⟨x, rfl⟩ := hg
      have d1 := hdeep 1 (by kernel_rfl)
      have d3 := hdeep 3 (by kernel_rfl)
      obtain ⟨a9, c9, e9, _⟩ : ∃ a_ c, got a 9 = .slice a_ n c ∧ _ := hdeep 6 (by kernel_rfl)
      simp only [ttΦ, got] at d1 d3
      have g9 := e9
      simp only [got] at g9
      simp at g9 d1 d3
      unfold Oper.wp
      simp [go_sem, execOp, Act.eval, ↓IntWalk.iteOmega, d1, d3, g9]
      exact ⟨_, rfl, ex_refl _, a9, c9, by simp [upd], by simp [upd]; exact e9⟩
  case fin =>
    rintro t w1 hg hΦ o ho
    have h0 := hΦ 0 (by decide)
    have h1 := hΦ 1 (by decide)
    have h2 := hΦ 2 (by decide)
    have h3 := hΦ 3 (by decide)
    have h4 := hΦ 4 (by decide)
    have h5 := hΦ 5 (by decide)
    obtain ⟨a9, c9, e9, o9⟩ := hΦ 6 (by decide)
    obtain ⟨b9, d9, e10, e10a⟩ := hΦ 7 (by decide)
    simp only [ttΦ] at h0 h1 h2 h3 h4 h5
    rw [e9] at e10a
    cases e10a
    simp only [List.getElem?_cons_succ, List.getElem?_cons_zero, Option.some.injEq] at ho
    subst ho
    simp only [putAll, List.take_succ_cons, List.take_zero, h0, h1, h2, h3, h4, h5, e9, e10]
    simp only [Act.put]
    simp only [List.setIfInBounds_toArray, List.set_cons_succ, List.set_cons_zero]
    have hgb : w1.heap[w.heap.size + 1]? = some (.cells #[.int .i64 0, .int .i64 0, .slice none 0 0] 29) := blk_ex hg (by rw [blk_alloc, if_pos (by simp [go_sem])])
    have k0 := cell_blk (i := 0) hgb rfl
    have k1 := cell_blk (i := 1) hgb rfl
    have k2 := cell_blk (i := 2) hgb rfl
    have z0 := frozen_blk (i := 0) hgb
    have z1 := frozen_blk (i := 1) hgb
    have z2 := frozen_blk (i := 2) hgb
    unfold Oper.wp
    simp [go_sem, execOp, Act.eval, k0, k1, k2, z0, z1, z2]
    have o2 := ((o9.set_other (i := 0) (u := .int .i64 W) hgb (by decide)).set_other (i := 1) (u := .int .i64 H) (blk_set_eq hgb) (by decide)).set_other (i := 2) (u := .slice a9 n c9) (blk_set_eq (blk_set_eq hgb)) (by decide)
    have rf := blk_set_eq (i := 2) (u := .slice a9 n c9) (blk_set_eq (i := 1) (u := .int .i64 H) (blk_set_eq (i := 0) (u := .int .i64 W) hgb))
    have hxf := ex_set_new (i := 2) (u := .slice a9 n c9) (g := w.heap.size + 1) (ex_set_new (i := 1) (u := .int .i64 H) (g := w.heap.size + 1) (ex_set_new (i := 0) (u := .int .i64 W) (g := w.heap.size + 1) (ex_trans (show ∃ y, ((w.alloc (.cells #[.int .i64 W, .int .i64 H, .slice ao n cap] 29)).alloc (.cells #[.int .i64 0, .int .i64 0, .slice none 0 0] 29)) = plus w y from (by with_reducible repeat (first | exact ex_refl _ | exact ex_more9 | apply ex_alloc | apply ex_plus | apply ex_drew | apply ex_drewN))) hg) (by omega)) (by omega)) (by omega)
    clear o9 k0 k1 k2 z0 z1 z2 hgb hΦ
    generalize ((w1.setCell ⟨w.heap.size + 1, 0, none⟩ (.int .i64 W)).setCell ⟨w.heap.size + 1, 1, none⟩ (.int .i64 H)).setCell ⟨w.heap.size + 1, 2, none⟩ (.slice a9 n c9) = w9 at *
    have f0 := cell_blk (i := 0) rf rfl
    have f1 := cell_blk (i := 1) rf rfl
    have f2 := cell_blk (i := 2) rf rfl
    have hB : w.heap.size ≤ ((w.alloc (.cells #[.int .i64 W, .int .i64 H, .slice ao n cap] 29)).alloc (.cells #[.int .i64 0, .int .i64 0, .slice none 0 0] 29)).heap.size := by simp [go_sem]; omega
    go_wp2
    exact bodyPost_ret (v := .agg #[.int .i64 W, .int .i64 H, .slice a9 n c9]) (by simp [results, Try.results15, go_sem, f0, f1, f2]) rfl ⟨a9, c9, rfl, hxf, o2.base hB⟩

set_option maxHeartbeats 2000000 in
theorem rtwin9_calls (W H : Int) (ao : Option Addr) (n cap : Nat) (l : List Cl) (w : World) (hl : Lay fCl w ao n l) (hn : n ≤ 20000) (hz : ao = none → cap = 0) :
    Calls Try.prog 13 #[.agg #[.int .i64 W, .int .i64 H, .slice ao n cap]] w fun e w' => ∃ ao' cap', e = .returned (.agg #[.int .i64 W, .int .i64 H, .slice ao' n cap']) ∧ (∃ y, w' = plus w y) ∧ Own 23 4 fCl w w' ao' n cap' l := by
  go_enter Try.func13, Try.ntmps13
  go_wp2
  refine region_rel 8 ttS (ttΦ w ((w.alloc (.cells #[.int .i64 W, .int .i64 H, .slice ao n cap] 29)).alloc (.cells #[.int .i64 0, .int .i64 0, .slice none 0 0] 29)) W H ao n cap l) (by kernel_rfl) (by kernel_rfl) rfl (ttΦ_mono w ((w.alloc (.cells #[.int .i64 W, .int .i64 H, .slice ao n cap] 29)).alloc (.cells #[.int .i64 0, .int .i64 0, .slice none 0 0] 29)) W H ao n cap l) ?steps ?fin
  case steps =>
    refine ⟨?_, ?_, ?_, ?_, ?_, ?_, ?_, ?_, trivial⟩
    · intro a w' hg hfree hdeep
      obtain ⟨x, rfl⟩ := hg
      have f1_ := hfree 1 (by kernel_rfl)
      simp only [ttΦ, got] at f1_
      simp [go_sem] at f1_
      unfold Oper.wp
      simp [go_sem, execOp, Act.eval, ↓IntWalk.iteOmega, f1_]
      exact ⟨_, rfl, ex_refl _, by simp [ttΦ, upd]⟩
    · intro a w' hg hfree hdeep
      obtain ⟨x, rfl⟩ := hg
      have d0 := hdeep 0 (by kernel_rfl)
      simp only [ttΦ, got] at d0
      unfold Oper.wp
      simp [go_sem, execOp, Act.eval, ↓IntWalk.iteOmega, d0]
      exact ⟨_, rfl, ex_refl _, by simp [ttΦ, upd]⟩
    · intro a w' hg hfree hdeep
      obtain ⟨x, rfl⟩ := hg
      have f1_ := hfree 1 (by kernel_rfl)
      simp only [ttΦ, got] at f1_
      simp [go_sem] at f1_
      unfold Oper.wp
      simp [go_sem, execOp, Act.eval, ↓IntWalk.iteOmega, f1_]
      exact ⟨_, rfl, ex_refl _, by simp [ttΦ, upd]⟩
    · intro a w' hg hfree hdeep
      obtain ⟨x, rfl⟩ := hg
      have d2 := hdeep 2 (by kernel_rfl)
      simp only [ttΦ, got] at d2
      unfold Oper.wp
      simp [go_sem, execOp, Act.eval, ↓IntWalk.iteOmega, d2]
      exact ⟨_, rfl, ex_refl _, by simp [ttΦ, upd]⟩
    · intro a w' hg hfree hdeep
      obtain ⟨x, rfl⟩ := hg
      have f1_ := hfree 1 (by kernel_rfl)
      simp only [ttΦ, got] at f1_
      simp [go_sem] at f1_
      unfold Oper.wp
      simp [go_sem, execOp, Act.eval, ↓IntWalk.iteOmega, f1_]
      exact ⟨_, rfl, ex_refl _, by simp [ttΦ, upd]⟩
    · intro a w' hg hfree hdeep
      obtain ⟨x, rfl⟩ := hg
      have d4 := hdeep 4 (by kernel_rfl)
      simp only [ttΦ, got] at d4
      unfold Oper.wp
      simp [go_sem, execOp, Act.eval, ↓IntWalk.iteOmega, d4]
      exact ⟨_, rfl, ex_refl _, by simp [ttΦ, upd]⟩
    · intro a w' hg hfree hdeep
      obtain ⟨x, rfl⟩ := hg
      have d5 := hdeep 5 (by kernel_rfl)
      simp only [ttΦ, got] at d5
      have d5' := d5
      simp at d5'
      refine wp_append_lay (T := plus ((w.alloc (.cells #[.int .i64 W, .int .i64 H, .slice ao n cap] 29)).alloc (.cells #[.int .i64 0, .int .i64 0, .slice none 0 0] 29)) x) (ao := none) (n := 0) (cap := 0) (l := []) _ _ rfl kinC fCl_c fCl_1 rfl (ex_refl _) own_nil d5 (hl.ex (by with_reducible repeat (first | exact ex_refl _ | exact ex_more9 | apply ex_alloc | apply ex_plus | apply ex_drew | apply ex_drewN))) (by omega) (by decide) fun ao' cap' y h => ?_
      rw [Nat.zero_add, List.nil_append] at h
      exact ⟨_, rfl, ⟨y, rfl⟩, ao', cap', by simp [upd], h.base (by rw [plus_size]; omega)⟩
    · intro a w' hg hfree hdeep
      obtain ⟨x, rfl⟩ := hg
      have d1 := hdeep 1 (by kernel_rfl)
      have d3 := hdeep 3 (by kernel_rfl)
      obtain ⟨a9, c9, e9, _⟩ : ∃ a_ c, got a 9 = .slice a_ n c ∧ _ := hdeep 6 (by kernel_rfl)
      simp only [ttΦ, got] at d1 d3
      have g9 := e9
      simp only [got] at g9
      simp at g9 d1 d3
      unfold Oper.wp
      simp [go_sem, execOp, Act.eval, ↓IntWalk.iteOmega, d1, d3, g9]
      exact ⟨_, rfl, ex_refl _, a9, c9, by simp [upd], by simp [upd]; exact e9⟩
  case fin =>
    rintro t w1 hg hΦ o ho
    have h0 := hΦ 0 (by decide)
    have h1 := hΦ 1 (by decide)
    have h2 := hΦ 2 (by decide)
    have h3 := hΦ 3 (by decide)
    have h4 := hΦ 4 (by decide)
    have h5 := hΦ 5 (by decide)
    obtain ⟨a9, c9, e9, o9⟩ := hΦ 6 (by decide)
    obtain ⟨b9, d9, e10, e10a⟩ := hΦ 7 (by decide)
    simp only [ttΦ] at h0 h1 h2 h3 h4 h5
    rw [e9] at e10a
    cases e10a
    simp only [List.getElem?_cons_succ, List.getElem?_cons_zero, Option.some.injEq] at ho
    subst ho
    simp only [putAll, List.take_succ_cons, List.take_zero, h0, h1, h2, h3, h4, h5, e9, e10]
    simp only [Act.put]
    simp only [List.setIfInBounds_toArray, List.set_cons_succ, List.set_cons_zero]
    have hgb : w1.heap[w.heap.size + 1]? = some (.cells #[.int .i64 0, .int .i64 0, .slice none 0 0] 29) := blk_ex hg (by rw [blk_alloc, if_pos (by simp [go_sem])])
    have k0 := cell_blk (i := 0) hgb rfl
    have k1 := cell_blk (i := 1) hgb rfl
    have k2 := cell_blk (i := 2) hgb rfl
    have z0 := frozen_blk (i := 0) hgb
    have z1 := frozen_blk (i := 1) hgb
    have z2 := frozen_blk (i := 2) hgb
    unfold Oper.wp
    simp [go_sem, execOp, Act.eval, k0, k1, k2, z0, z1, z2]
    have o2 := ((o9.set_other (i := 0) (u := .int .i64 W) hgb (by decide)).set_other (i := 1) (u := .int .i64 H) (blk_set_eq hgb) (by decide)).set_other (i := 2) (u := .slice a9 n c9) (blk_set_eq (blk_set_eq hgb)) (by decide)
    have rf := blk_set_eq (i := 2) (u := .slice a9 n c9) (blk_set_eq (i := 1) (u := .int .i64 H) (blk_set_eq (i := 0) (u := .int .i64 W) hgb))
    have hxf := ex_set_new (i := 2) (u := .slice a9 n c9) (g := w.heap.size + 1) (ex_set_new (i := 1) (u := .int .i64 H) (g := w.heap.size + 1) (ex_set_new (i := 0) (u := .int .i64 W) (g := w.heap.size + 1) (ex_trans (show ∃ y, ((w.alloc (.cells #[.int .i64 W, .int .i64 H, .slice ao n cap] 29)).alloc (.cells #[.int .i64 0, .int .i64 0, .slice none 0 0] 29)) = plus w y from (by with_reducible repeat (first | exact ex_refl _ | exact ex_more9 | apply ex_alloc | apply ex_plus | apply ex_drew | apply ex_drewN))) hg) (by omega)) (by omega)) (by omega)
    clear o9 k0 k1 k2 z0 z1 z2 hgb hΦ
    generalize ((w1.setCell ⟨w.heap.size + 1, 0, none⟩ (.int .i64 W)).setCell ⟨w.heap.size + 1, 1, none⟩ (.int .i64 H)).setCell ⟨w.heap.size + 1, 2, none⟩ (.slice a9 n c9) = w9 at *
    have f0 := cell_blk (i := 0) rf rfl
    have f1 := cell_blk (i := 1) rf rfl
    have f2 := cell_blk (i := 2) rf rfl
    have hB : w.heap.size ≤ ((w.alloc (.cells #[.int .i64 W, .int .i64 H, .slice ao n cap] 29)).alloc (.cells #[.int .i64 0, .int .i64 0, .slice none 0 0] 29)).heap.size := by simp [go_sem]; omega
    go_wp2
    exact bodyPost_ret (v := .agg #[.int .i64 W, .int .i64 H, .slice a9 n c9]) (by simp [results, Try.results13, go_sem, f0, f1, f2]) rfl ⟨a9, c9, rfl, hxf, o2.base hB⟩

end Go.Proofs.Ytimmbpcoagjcbaa
