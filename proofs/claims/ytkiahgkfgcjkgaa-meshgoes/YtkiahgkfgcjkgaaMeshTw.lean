/- What mesh.Twin gives: its first statement. -/
import Derived.Test.YtkiahgkfgcjkgaaMesh15
import Derived.Test.YtkiahgkfgcjkgaaOwn2
import Derived.Test.YtkiahgkfgcjkgaaRel
namespace Go.Proofs.Ytkiahgkfgcjkgaa
open Go.RowKit Go.ChangeShapes Go.WideShapes Go.ChangeAt
set_option linter.unusedSimpArgs false
set_option linter.unusedVariables false
attribute [local go_sem] plus_size plus_drew dn_set dn_alloc dn_plus plus_dn cell_plus frozen_plus set_plus cell_alloc frozen_alloc set_alloc

attribute [local go_sem] eqarr_34 nearr_34 larr_34

attribute [local go_sem] eqarr_50 nearr_50 larr_50

attribute [local go_sem] isnil_26

attribute [local go_sem] isnil_29

attribute [local go_sem] isnil_30

attribute [local go_sem] isnil_31

/-- a copy of a mesh, in memory newer than T -/
structure TwinAt (T w : World) (h : MH) (phs : List PH) (m : Ms) : Prop where
  v : Own 49 3 fV T w h.va h.vn h.vc m.vs
  u : Own 50 2 f2 T w h.ua h.un h.uc m.uv
  p : Own 28 2 fP T w h.pa h.pn h.pc phs
  len : phs.length = m.ps.length
  kind : ∀ k, k < phs.length → (nth dPH phs k).kind = (nth dPr m.ps k).kind
  ix : ∀ k, k < phs.length → Own 3 1 fI T w (nth dPH phs k).ao (nth dPH phs k).n (nth dPH phs k).cap (nth dPr m.ps k).ix

def tw5S (i : Nat) : List Nat := match i with | 0 => [24] | 1 => [25] | 2 => [26] | 3 => [27] | 4 => [28] | 5 => [29] | 6 => [30] | 7 => [31] | _ => []
def tw5Φ (T : World) (g b gp k pn cp n1 cap1 : Nat) (ao1 : Option Addr) (ix : List Int) (i : Nat) (t : Nat → Value) (w' : World) : Prop := match i with
  | 0 => t 24 = .pointer (some ⟨g, 2, none⟩)
  | 1 => t 25 = .slice (some ⟨gp, 0, none⟩) pn cp
  | 2 => t 26 = .int .i64 k
  | 3 => t 27 = .pointer (some ⟨b, 1, none⟩)
  | 4 => t 28 = .slice ao1 n1 cap1
  | 5 => ∃ a c, t 29 = .slice a n1 c ∧ Own 3 1 fI T w' a n1 c ix
  | 6 => t 30 = .pointer (some ⟨gp, k * 2, none⟩)
  | 7 => t 31 = .pointer (some ⟨gp, k * 2 + 1, none⟩)
  | _ => True

theorem tw5Φ_mono (T : World) (g b gp k pn cp n1 cap1 : Nat) (ao1 : Option Addr) (ix : List Int) : ∀ i t t' w' x, tw5Φ T g b gp k pn cp n1 cap1 ao1 ix i t w' → (∀ s ∈ tw5S i, t' s = t s) → tw5Φ T g b gp k pn cp n1 cap1 ao1 ix i t' (plus w' x) := by
  intro i t t' w' x h hs'
  match i with
  | 0 => exact (hs' 24 (by decide)).trans h
  | 1 => exact (hs' 25 (by decide)).trans h
  | 2 => exact (hs' 26 (by decide)).trans h
  | 3 => exact (hs' 27 (by decide)).trans h
  | 4 => exact (hs' 28 (by decide)).trans h
  | 5 => obtain ⟨a, c, h1, h2⟩ := h; exact ⟨a, c, (hs' 29 (by decide)).trans h1, h2.plus x⟩
  | 6 => exact (hs' 30 (by decide)).trans h
  | 7 => exact (hs' 31 (by decide)).trans h
  | i + 8 => trivial

def twS (i : Nat) : List Nat := match i with | 0 => [6] | 1 => [7] | 2 => [8] | 3 => [9] | 4 => [10] | 5 => [11] | 6 => [12] | 7 => [13] | 8 => [14] | 9 => [15, 8, 11, 14] | 10 => [3] | _ => []
def twΦ (va ua pa : Option Addr) (vn vc un uc pn pc : Nat) (hs : List PH) (m : Ms) (w T : World) (i : Nat) (t : Nat → Value) (w' : World) : Prop := match i with
  | 0 => t 6 = .pointer (some ⟨w.heap.size, 0, none⟩)
  | 1 => t 7 = .slice va vn vc
  | 2 => ∃ a c, t 8 = .slice a vn c ∧ Own 49 3 fV T w' a vn c m.vs
  | 3 => t 9 = .pointer (some ⟨w.heap.size, 1, none⟩)
  | 4 => t 10 = .slice ua un uc
  | 5 => ∃ a c, t 11 = .slice a un c ∧ Own 50 2 f2 T w' a un c m.uv
  | 6 => t 12 = .pointer (some ⟨w.heap.size, 2, none⟩)
  | 7 => t 13 = .slice pa pn pc
  | 8 => ∃ a c, t 14 = .slice a pn c ∧ Own 28 2 fP T w' a pn c hs
  | 9 => t 15 = .agg #[t 8, t 11, t 14]
  | 10 => ∃ g, t 3 = .pointer (some ⟨g, 0, none⟩) ∧ T.heap.size ≤ g ∧ w'.heap[g]? = some (.cells #[.slice none 0 0, .slice none 0 0, .slice none 0 0] 33)
  | _ => True

theorem twΦ_mono (va ua pa : Option Addr) (vn vc un uc pn pc : Nat) (hs : List PH) (m : Ms) (w T : World) : ∀ i t t' w' x, twΦ va ua pa vn vc un uc pn pc hs m w T i t w' → (∀ s ∈ twS i, t' s = t s) → twΦ va ua pa vn vc un uc pn pc hs m w T i t' (plus w' x) := by
  intro i t t' w' x h hs'
  match i with
  | 0 => (have := hs' 6 (by decide)); exact this.trans h
  | 1 => (have := hs' 7 (by decide)); exact this.trans h
  | 2 => obtain ⟨a, c, h1, h2⟩ := h; exact ⟨a, c, (hs' 8 (by decide)).trans h1, h2.plus x⟩
  | 3 => (have := hs' 9 (by decide)); exact this.trans h
  | 4 => (have := hs' 10 (by decide)); exact this.trans h
  | 5 => obtain ⟨a, c, h1, h2⟩ := h; exact ⟨a, c, (hs' 11 (by decide)).trans h1, h2.plus x⟩
  | 6 => (have := hs' 12 (by decide)); exact this.trans h
  | 7 => (have := hs' 13 (by decide)); exact this.trans h
  | 8 => obtain ⟨a, c, h1, h2⟩ := h; exact ⟨a, c, (hs' 14 (by decide)).trans h1, h2.plus x⟩
  | 9 =>
    show t' 15 = .agg #[t' 8, t' 11, t' 14]
    rw [hs' 15 (by decide), hs' 8 (by decide), hs' 11 (by decide), hs' 14 (by decide)]
    exact h
  | 10 => obtain ⟨g, h1, h2, h3⟩ := h; exact ⟨g, (hs' 3 (by decide)).trans h1, h2, by rw [plus_block _ _ _ (Array.getElem?_eq_some_iff.1 h3).1]; exact h3⟩
  | i + 11 => trivial

set_option maxRecDepth 100000 in
set_option maxHeartbeats 4000000 in
theorem twin_calls (va ua pa : Option Addr) (vn vc un uc pn pc : Nat) (hs : List PH) (m : Ms) (w : World) (hm : MeshAt w ⟨va, vn, vc, ua, un, uc, pa, pn, pc⟩ hs m) (hf : Few hs) (s1 : vn ≤ 1000) (s2 : un ≤ 1000) (s3 : pn ≤ 100) :
    Calls Try.prog 19 #[.agg #[.slice va vn vc, .slice ua un uc, .slice pa pn pc]] w fun e w' => ∃ h phs, e = .returned (fM h) ∧ (∃ y, w' = plus w y) ∧ TwinAt w w' h phs m ∧ h.vn = vn ∧ h.un = un ∧ h.pn = pn := by
  have hpp : PrimsAt w hs m.ps := hm.pp
  have lp := hm.pl.len
  have lq := hpp.len
  simp only at lp
  have hvl : Lay fV w va vn m.vs := hm.vl
  have hul : Lay f2 w ua un m.uv := hm.ul
  have hpl : Lay fP w pa pn hs := hm.pl
  go_enter Try.func19, Try.ntmps19
  go_wp2
  refine region_rel 11 twS (twΦ va ua pa vn vc un uc pn pc hs m w ((w.alloc (.cells #[.slice va vn vc, .slice ua un uc, .slice pa pn pc] 33)).alloc (.cells #[.slice none 0 0, .slice none 0 0, .slice none 0 0] 33))) (by kernel_rfl) (by kernel_rfl) rfl (twΦ_mono va ua pa vn vc un uc pn pc hs m w ((w.alloc (.cells #[.slice va vn vc, .slice ua un uc, .slice pa pn pc] 33)).alloc (.cells #[.slice none 0 0, .slice none 0 0, .slice none 0 0] 33))) ?steps ?fin
  case steps =>
    refine ⟨?_, ?_, ?_, ?_, ?_, ?_, ?_, ?_, ?_, ?_, ?_, trivial⟩
    · intro a w' hg hfree hdeep
      obtain ⟨x, rfl⟩ := hg
      have f1 := hfree 1 (by kernel_rfl)
      simp only [twΦ, got] at f1
      simp [go_sem] at f1
      unfold Oper.wp
      simp [go_sem, execOp, Act.eval, ↓IntWalk.iteOmega, f1]
      exact ⟨_, rfl, ex_refl _, by simp [twΦ, upd]⟩
    · intro a w' hg hfree hdeep
      obtain ⟨x, rfl⟩ := hg
      have d6 := hdeep 0 (by kernel_rfl)
      simp only [twΦ, got] at d6
      skip
      unfold Oper.wp
      simp [go_sem, execOp, Act.eval, ↓IntWalk.iteOmega, d6]
      exact ⟨_, rfl, ex_refl _, by simp [twΦ, upd]⟩
    · intro a w' hg hfree hdeep
      obtain ⟨x, rfl⟩ := hg
      have d7 := hdeep 1 (by kernel_rfl)
      simp only [twΦ, got] at d7
      skip
      unfold Oper.wp
      simp [go_sem, execOp, Act.eval, ↓IntWalk.iteOmega, d7]
      refine (cloneV _ _ _ m.vs _ (hvl.ex (by with_reducible repeat (first | exact ex_refl _ | exact ex_more | apply ex_alloc | apply ex_plus | apply ex_drew | apply ex_drewN))) (by omega) (fun h => (hm.vnil h).2)).mono ?_
      rintro e w1 ⟨ao1, n1, c1, rfl, hw1, o1⟩
      obtain rfl : vn = n1 := hvl.len.symm.trans o1.1
      exact ⟨_, rfl, hw1, (show ∃ a_ c_, upd (got a) (some 8) (.slice ao1 vn c1) 8 = .slice a_ vn c_ ∧ Own 49 3 fV ((w.alloc (.cells #[.slice va vn vc, .slice ua un uc, .slice pa pn pc] 33)).alloc (.cells #[.slice none 0 0, .slice none 0 0, .slice none 0 0] 33)) w1 a_ vn c_ m.vs from ⟨ao1, c1, by simp [upd], o1.base (by rw [plus_size]; omega)⟩)⟩
    · intro a w' hg hfree hdeep
      obtain ⟨x, rfl⟩ := hg
      have f1 := hfree 1 (by kernel_rfl)
      simp only [twΦ, got] at f1
      simp [go_sem] at f1
      unfold Oper.wp
      simp [go_sem, execOp, Act.eval, ↓IntWalk.iteOmega, f1]
      exact ⟨_, rfl, ex_refl _, by simp [twΦ, upd]⟩
    · intro a w' hg hfree hdeep
      obtain ⟨x, rfl⟩ := hg
      have d9 := hdeep 3 (by kernel_rfl)
      simp only [twΦ, got] at d9
      skip
      unfold Oper.wp
      simp [go_sem, execOp, Act.eval, ↓IntWalk.iteOmega, d9]
      exact ⟨_, rfl, ex_refl _, by simp [twΦ, upd]⟩
    · intro a w' hg hfree hdeep
      obtain ⟨x, rfl⟩ := hg
      have d10 := hdeep 4 (by kernel_rfl)
      simp only [twΦ, got] at d10
      skip
      unfold Oper.wp
      simp [go_sem, execOp, Act.eval, ↓IntWalk.iteOmega, d10]
      refine (clone2 _ _ _ m.uv _ (hul.ex (by with_reducible repeat (first | exact ex_refl _ | exact ex_more | apply ex_alloc | apply ex_plus | apply ex_drew | apply ex_drewN))) (by omega) (fun h => (hm.unil h).2)).mono ?_
      rintro e w1 ⟨ao1, n1, c1, rfl, hw1, o1⟩
      obtain rfl : un = n1 := hul.len.symm.trans o1.1
      exact ⟨_, rfl, hw1, (show ∃ a_ c_, upd (got a) (some 11) (.slice ao1 un c1) 11 = .slice a_ un c_ ∧ Own 50 2 f2 ((w.alloc (.cells #[.slice va vn vc, .slice ua un uc, .slice pa pn pc] 33)).alloc (.cells #[.slice none 0 0, .slice none 0 0, .slice none 0 0] 33)) w1 a_ un c_ m.uv from ⟨ao1, c1, by simp [upd], o1.base (by rw [plus_size]; omega)⟩)⟩
    · intro a w' hg hfree hdeep
      obtain ⟨x, rfl⟩ := hg
      have f1 := hfree 1 (by kernel_rfl)
      simp only [twΦ, got] at f1
      simp [go_sem] at f1
      unfold Oper.wp
      simp [go_sem, execOp, Act.eval, ↓IntWalk.iteOmega, f1]
      exact ⟨_, rfl, ex_refl _, by simp [twΦ, upd]⟩
    · intro a w' hg hfree hdeep
      obtain ⟨x, rfl⟩ := hg
      have d12 := hdeep 6 (by kernel_rfl)
      simp only [twΦ, got] at d12
      skip
      unfold Oper.wp
      simp [go_sem, execOp, Act.eval, ↓IntWalk.iteOmega, d12]
      exact ⟨_, rfl, ex_refl _, by simp [twΦ, upd]⟩
    · intro a w' hg hfree hdeep
      obtain ⟨x, rfl⟩ := hg
      have d13 := hdeep 7 (by kernel_rfl)
      simp only [twΦ, got] at d13
      skip
      unfold Oper.wp
      simp [go_sem, execOp, Act.eval, ↓IntWalk.iteOmega, d13]
      refine (cloneP _ _ _ hs _ (hpl.ex (by with_reducible repeat (first | exact ex_refl _ | exact ex_more | apply ex_alloc | apply ex_plus | apply ex_drew | apply ex_drewN))) (by omega) (fun h => (hm.pnil h).2)).mono ?_
      rintro e w1 ⟨ao1, n1, c1, rfl, hw1, o1⟩
      obtain rfl : pn = n1 := hpl.len.symm.trans o1.1
      exact ⟨_, rfl, hw1, (show ∃ a_ c_, upd (got a) (some 14) (.slice ao1 pn c1) 14 = .slice a_ pn c_ ∧ Own 28 2 fP ((w.alloc (.cells #[.slice va vn vc, .slice ua un uc, .slice pa pn pc] 33)).alloc (.cells #[.slice none 0 0, .slice none 0 0, .slice none 0 0] 33)) w1 a_ pn c_ hs from ⟨ao1, c1, by simp [upd], o1.base (by rw [plus_size]; omega)⟩)⟩
    · intro a w' hg hfree hdeep
      obtain ⟨x, rfl⟩ := hg
      obtain ⟨av, cv, e8, _⟩ : ∃ a_ c_, got a 8 = .slice a_ vn c_ ∧ _ := hdeep 2 (by kernel_rfl)
      obtain ⟨au, cu, e11, _⟩ : ∃ a_ c_, got a 11 = .slice a_ un c_ ∧ _ := hdeep 5 (by kernel_rfl)
      obtain ⟨ap, cp, e14, _⟩ : ∃ a_ c_, got a 14 = .slice a_ pn c_ ∧ _ := hdeep 8 (by kernel_rfl)
      have g8 := e8
      have g11 := e11
      have g14 := e14
      simp only [got] at g8 g11 g14
      simp at g8 g11 g14
      unfold Oper.wp
      simp [go_sem, execOp, Act.eval, g8, g11, g14]
      exact ⟨_, rfl, ex_refl _, by simp [twΦ, upd, e8, e11, e14]⟩
    · intro a w' hg hfree hdeep
      obtain ⟨x, rfl⟩ := hg
      unfold Oper.wp
      simp [go_sem, execOp, Act.eval]
      exact ⟨_, rfl, ex_alloc (ex_refl _), (show ∃ g, upd (got a) (some 3) _ 3 = .pointer (some ⟨g, 0, none⟩) ∧ _ from ⟨_, by simp [upd]; rfl, by simp [go_sem], by rw [blk_alloc, if_pos (by simp [go_sem])]⟩)⟩
  case fin =>
    rintro t w1 hg hΦ o ho
    have h2 := hΦ 2 (by decide)
    have h5 := hΦ 5 (by decide)
    have h8 := hΦ 8 (by decide)
    have h9 := hΦ 9 (by decide)
    have h10 := hΦ 10 (by decide)
    have h0 := hΦ 0 (by decide)
    have h1 := hΦ 1 (by decide)
    have h3 := hΦ 3 (by decide)
    have h4 := hΦ 4 (by decide)
    have h6 := hΦ 6 (by decide)
    have h7 := hΦ 7 (by decide)
    simp only [twΦ] at h0 h1 h2 h3 h4 h5 h6 h7 h8 h9 h10
    obtain ⟨av, cv, e8, ov⟩ := h2
    obtain ⟨au, cu, e11, ou⟩ := h5
    obtain ⟨ap, cp, e14, op⟩ := h8
    obtain ⟨g, e3, hgl, hgb⟩ := h10
    rw [e8, e11, e14] at h9
    simp only [List.getElem?_cons_succ, List.getElem?_cons_zero, Option.some.injEq] at ho
    subst ho
    simp only [putAll, List.take_succ_cons, List.take_zero, h0, h1, e8, h3, h4, e11, h6, h7, e14, h9, e3]
    simp only [Act.put]
    simp only [List.setIfInBounds_toArray, List.set_cons_succ, List.set_cons_zero]
    have k0 := cell_blk (i := 0) hgb rfl
    have k1 := cell_blk (i := 1) hgb rfl
    have k2 := cell_blk (i := 2) hgb rfl
    have z0 := frozen_blk (i := 0) hgb
    have z1 := frozen_blk (i := 1) hgb
    have z2 := frozen_blk (i := 2) hgb
    unfold Oper.wp
    simp [go_sem, execOp, Act.eval, k0, k1, k2, z0, z1, z2]
    clear k0 k1 k2 z0 z1 z2
    have n0 : g ≠ g → False := fun h => h rfl
    have ov2 := ((ov.set_other (i := 0) (u := .slice av vn cv) hgb (by decide)).set_other (i := 1) (u := .slice au un cu) (blk_set_eq hgb) (by decide)).set_other (i := 2) (u := .slice ap pn cp) (blk_set_eq (blk_set_eq hgb)) (by decide)
    have ou2 := ((ou.set_other (i := 0) (u := .slice av vn cv) hgb (by decide)).set_other (i := 1) (u := .slice au un cu) (blk_set_eq hgb) (by decide)).set_other (i := 2) (u := .slice ap pn cp) (blk_set_eq (blk_set_eq hgb)) (by decide)
    have op2 := ((op.set_other (i := 0) (u := .slice av vn cv) hgb (by decide)).set_other (i := 1) (u := .slice au un cu) (blk_set_eq hgb) (by decide)).set_other (i := 2) (u := .slice ap pn cp) (blk_set_eq (blk_set_eq hgb)) (by decide)
    have hb2 := blk_set_eq (i := 2) (u := .slice ap pn cp) (blk_set_eq (i := 1) (u := .slice au un cu) (blk_set_eq (i := 0) (u := .slice av vn cv) hgb))
    have hx2 := ex_set_new (i := 2) (u := .slice ap pn cp) (ex_set_new (i := 1) (u := .slice au un cu) (ex_set_new (i := 0) (u := .slice av vn cv) hg hgl) hgl) hgl
    simp only [List.setIfInBounds_toArray, List.set_cons_succ, List.set_cons_zero] at hb2
    generalize ((w1.setCell ⟨g, 0, none⟩ (.slice av vn cv)).setCell ⟨g, 1, none⟩ (.slice au un cu)).setCell ⟨g, 2, none⟩ (.slice ap pn cp) = w2 at *
    clear hΦ ov ou op hgb hg h0 h1 h3 h4 h6 h7 h9 e8 e11 e14 e3 n0
    have q2 : w2.cell? ⟨w.heap.size, 2, none⟩ = some (.slice pa pn pc) := cell_ex hx2 (by simp [go_sem, ↓IntWalk.iteOmega])
    go_wp2
    go_loopw [19] (fun i wr => ∃ (k : Nat) (phs : List PH), k ≤ pn ∧ i = .int .i64 k ∧ (∃ y, wr = plus ((w.alloc (.cells #[.slice va vn vc, .slice ua un uc, .slice pa pn pc] 33)).alloc (.cells #[.slice none 0 0, .slice none 0 0, .slice none 0 0] 33)) y) ∧ wr.heap[g]? = some (.cells #[.slice av vn cv, .slice au un cu, .slice ap pn cp] 33) ∧ Own 49 3 fV ((w.alloc (.cells #[.slice va vn vc, .slice ua un uc, .slice pa pn pc] 33)).alloc (.cells #[.slice none 0 0, .slice none 0 0, .slice none 0 0] 33)) wr av vn cv m.vs ∧ Own 50 2 f2 ((w.alloc (.cells #[.slice va vn vc, .slice ua un uc, .slice pa pn pc] 33)).alloc (.cells #[.slice none 0 0, .slice none 0 0, .slice none 0 0] 33)) wr au un cu m.uv ∧ Own 28 2 fP ((w.alloc (.cells #[.slice va vn vc, .slice ua un uc, .slice pa pn pc] 33)).alloc (.cells #[.slice none 0 0, .slice none 0 0, .slice none 0 0] 33)) wr ap pn cp phs ∧ (∀ j, j < pn → (nth dPH phs j).kind = (nth dPH hs j).kind ∧ (nth dPH phs j).n = (nth dPH hs j).n) ∧ (∀ j, j < k → Own 3 1 fI ((w.alloc (.cells #[.slice va vn vc, .slice ua un uc, .slice pa pn pc] 33)).alloc (.cells #[.slice none 0 0, .slice none 0 0, .slice none 0 0] 33)) wr (nth dPH phs j).ao (nth dPH phs j).n (nth dPH phs j).cap (nth dPr m.ps j).ix)) (fun i _ => pn - (intOf i).toNat)
    case atStart => exact ⟨0, hs, Nat.zero_le _, rfl, hx2, hb2, ov2, ou2, op2, fun j hj => ⟨rfl, rfl⟩, fun j hj => by omega⟩
    case round =>
      clear hx2 hb2 ov2 ou2 op2 q2
      obtain ⟨k, phs, hk, rfl, hx2, hb2, ov2, ou2, op2, hkn, hix⟩ := hrel
      by_cases hkl : k < pn
      · have hplw := hpl.ex (w' := wr) (by with_reducible repeat (first | exact ex_refl _ | exact ex_more | apply ex_alloc | apply ex_plus | apply ex_drew | apply ex_drewN | (apply ex_on; assumption)))
        obtain ⟨gm, off, rfl, hgm, hcell⟩ := hplw.some (by omega)
        obtain ⟨d0, d1⟩ := cellP hplw.len hcell (k := k) hkl
        have hp := hpp.one k (by omega)
        have hfk := hf k (by omega)
        have hknk := hkn k hkl
        generalize hpe : nth dPr m.ps k = p at *
        generalize hhe : nth dPH hs k = hh at *
        obtain ⟨kind, ao1, n1, cap1⟩ := hh
        obtain ⟨kind2, ix⟩ := p
        obtain ⟨hk1, hk2, hk3, hk4, hk5, hk6⟩ := hp
        simp only at d0 d1 hk1 hk2 hk3 hk4 hk5 hk6 hfk hknk
        subst hk1
        have ik : (k : Int) < (pn : Int) := by omega
        obtain ⟨gp, cur, rfl, hgp, hbp, hsz⟩ := op2.blk (by omega)
        have hgs := blk_lt hb2
        have hgps := blk_lt hbp
        have b2 := cell_blk (i := 2) hb2 rfl
        go_wp2
        refine region_rel 8 tw5S (tw5Φ ((w.alloc (.cells #[.slice va vn vc, .slice ua un uc, .slice (some ⟨gm, off, none⟩) pn pc] 33)).alloc (.cells #[.slice none 0 0, .slice none 0 0, .slice none 0 0] 33)) g wr.heap.size gp k pn cp n1 cap1 ao1 ix) (by kernel_rfl) (by kernel_rfl) rfl (tw5Φ_mono ((w.alloc (.cells #[.slice va vn vc, .slice ua un uc, .slice (some ⟨gm, off, none⟩) pn pc] 33)).alloc (.cells #[.slice none 0 0, .slice none 0 0, .slice none 0 0] 33)) g wr.heap.size gp k pn cp n1 cap1 ao1 ix) ?steps ?fin
        case steps =>
          refine ⟨?_, ?_, ?_, ?_, ?_, ?_, ?_, ?_, trivial⟩
          · intro a w' hg hfree hdeep
            obtain ⟨x, rfl⟩ := hg
            have f3 := hfree 3 (by kernel_rfl)
            simp only [tw5Φ, got] at f3
            simp [go_sem] at f3
            unfold Oper.wp
            simp [go_sem, execOp, Act.eval, ↓IntWalk.iteOmega, f3]
            exact ⟨_, rfl, ex_refl _, by simp [tw5Φ, upd]⟩
          · intro a w' hg hfree hdeep
            obtain ⟨x, rfl⟩ := hg
            have d24 := hdeep 0 (by kernel_rfl)
            simp only [tw5Φ, got] at d24
            skip
            unfold Oper.wp
            simp [go_sem, execOp, Act.eval, ↓IntWalk.iteOmega, d24, b2]
            exact ⟨_, rfl, ex_refl _, by simp [tw5Φ, upd]⟩
          · intro a w' hg hfree hdeep
            obtain ⟨x, rfl⟩ := hg
            have f4 := hfree 4 (by kernel_rfl)
            simp only [tw5Φ, got] at f4
            simp [go_sem] at f4
            unfold Oper.wp
            simp [go_sem, execOp, Act.eval, ↓IntWalk.iteOmega, f4]
            exact ⟨_, rfl, ex_refl _, by simp [tw5Φ, upd]⟩
          · intro a w' hg hfree hdeep
            obtain ⟨x, rfl⟩ := hg
            have f5 := hfree 5 (by kernel_rfl)
            simp only [tw5Φ, got] at f5
            simp [go_sem] at f5
            unfold Oper.wp
            simp [go_sem, execOp, Act.eval, ↓IntWalk.iteOmega, f5]
            exact ⟨_, rfl, ex_refl _, by simp [tw5Φ, upd]⟩
          · intro a w' hg hfree hdeep
            obtain ⟨x, rfl⟩ := hg
            have d27 := hdeep 3 (by kernel_rfl)
            simp only [tw5Φ, got] at d27
            skip
            unfold Oper.wp
            simp [go_sem, execOp, Act.eval, ↓IntWalk.iteOmega, d27]
            exact ⟨_, rfl, ex_refl _, by simp [tw5Φ, upd]⟩
          · intro a w' hg hfree hdeep
            obtain ⟨x, rfl⟩ := hg
            have d28 := hdeep 4 (by kernel_rfl)
            simp only [tw5Φ, got] at d28
            skip
            unfold Oper.wp
            simp [go_sem, execOp, Act.eval, ↓IntWalk.iteOmega, d28]
            refine (cloneI _ _ _ ix _ (hk6.ex (by with_reducible repeat (first | exact ex_refl _ | exact ex_more | apply ex_alloc | apply ex_plus | apply ex_drew | apply ex_drewN | (apply ex_on; assumption)))) (by omega) (fun h => (hk5 h).2)).mono ?_
            rintro e w1 ⟨ao3, n3, c3, rfl, hw1, o1⟩
            obtain rfl : n1 = n3 := hk6.len.symm.trans o1.1
            exact ⟨_, rfl, hw1, (show ∃ a_ c_, upd (got a) (some 29) (.slice ao3 n1 c3) 29 = .slice a_ n1 c_ ∧ Own 3 1 fI ((w.alloc (.cells #[.slice va vn vc, .slice ua un uc, .slice (some ⟨gm, off, none⟩) pn pc] 33)).alloc (.cells #[.slice none 0 0, .slice none 0 0, .slice none 0 0] 33)) w1 a_ n1 c_ ix from ⟨ao3, c3, by simp [upd], o1.base (by have := size_ex hx2; simp [go_sem] at this ⊢; omega)⟩)⟩
          · intro a w' hg hfree hdeep
            obtain ⟨x, rfl⟩ := hg
            have d25 := hdeep 1 (by kernel_rfl)
            have d26 := hdeep 2 (by kernel_rfl)
            simp only [tw5Φ, got] at d25 d26
            skip
            unfold Oper.wp
            simp [go_sem, execOp, Act.eval, ↓IntWalk.iteOmega, d25, d26]
            exact ⟨_, rfl, ex_refl _, by simp [tw5Φ, upd]⟩
          · intro a w' hg hfree hdeep
            obtain ⟨x, rfl⟩ := hg
            have d30 := hdeep 6 (by kernel_rfl)
            simp only [tw5Φ, got] at d30
            skip
            unfold Oper.wp
            simp [go_sem, execOp, Act.eval, ↓IntWalk.iteOmega, d30]
            exact ⟨_, rfl, ex_refl _, by simp [tw5Φ, upd]⟩
        case fin =>
          rintro t w1 hg hΦ o ho
          have h0 := hΦ 0 (by decide)
          have h1 := hΦ 1 (by decide)
          have h2 := hΦ 2 (by decide)
          have h3 := hΦ 3 (by decide)
          have h4 := hΦ 4 (by decide)
          have h5 := hΦ 5 (by decide)
          have h6 := hΦ 6 (by decide)
          have h7 := hΦ 7 (by decide)
          clear hΦ
          simp only [tw5Φ] at h0 h1 h2 h3 h4 h5 h6 h7
          obtain ⟨a9, c9, e29, o9⟩ := h5
          simp only [List.getElem?_cons_succ, List.getElem?_cons_zero, Option.some.injEq] at ho
          subst ho
          simp only [putAll, List.take_succ_cons, List.take_zero, h0, h1, h2, h3, h4, e29, h6, h7]
          simp only [Act.put]
          simp only [List.setIfInBounds_toArray, List.set_cons_succ, List.set_cons_zero]
          have hwr : ∃ y, w1 = plus wr y := ex_trans (ex_alloc (ex_refl _)) hg
          have hbp1 := blk_ex hwr hbp
          have opw := op2.ex hwr
          obtain ⟨_, _, eqa, _, hcp⟩ := opw.lay.some (by omega)
          cases eqa
          obtain ⟨_, k1⟩ := cellP opw.1 hcp (k := k) hkl
          rw [Nat.zero_add] at k1
          have z1 := frozen_blk (i := k * 2 + 1) hbp1
          unfold Oper.wp
          simp [go_sem, execOp, Act.eval, k1, z1]
          have ng : gp ≠ g := by
            intro e9
            rw [e9, hb2] at hbp
            cases hbp
          have ov3 := (ov2.ex hwr).set_other (i := k * 2 + 1) (u := .slice a9 n1 c9) hbp1 (by decide)
          have ou3 := (ou2.ex hwr).set_other (i := k * 2 + 1) (u := .slice a9 n1 c9) hbp1 (by decide)
          have op3 := opw.set_self (u := .slice a9 n1 c9) k 1 ⟨(nth dPH phs k).kind, a9, n1, c9⟩ dPH hkl fP_c (by decide) rfl
          have b3 : (w1.setCell ⟨gp, k * 2 + 1, none⟩ (.slice a9 n1 c9)).heap[g]? = _ := (blk_set_ne ng).trans (blk_ex hwr hb2)
          have hx3 := ex_set_new (i := k * 2 + 1) (u := .slice a9 n1 c9) (ex_trans hx2 hwr) hgp
          have o93 := o9.set_other (i := k * 2 + 1) (u := .slice a9 n1 c9) hbp1 (by decide)
          have hix3 := fun j hj => ((hix j hj).ex hwr).set_other (i := k * 2 + 1) (u := .slice a9 n1 c9) hbp1 (by decide)
          have lph := op2.1
          generalize w1.setCell ⟨gp, k * 2 + 1, none⟩ (.slice a9 n1 c9) = w3 at *
          clear ov2 ou2 op2 hix hb2 hbp hbp1 opw hcp k1 z1 b2 h0 h1 h2 h3 h4 h6 h7 e29 o9 hwr hg hx2 hplw hcell
          go_wp2
          go_roundw
          case rel =>
            refine ⟨k + 1, phs.set k ⟨(nth dPH phs k).kind, a9, n1, c9⟩, by omega, by go_num, hx3, b3, ov3, ou3, op3, fun j hj => ?_, fun j hj => ?_⟩
            · rw [nth_set (by omega)]
              by_cases ej : j = k
              · rw [if_pos ej, ej, hhe]
                exact ⟨hknk.1, rfl⟩
              · rw [if_neg ej]
                exact hkn j hj
            · rw [nth_set (by omega)]
              by_cases ej : j = k
              · rw [if_pos ej, ej, hpe]
                exact o93
              · rw [if_neg ej]
                exact hix3 j (by omega)
          case measure => simp [intOf]; omega
      · have ik : ¬ (k : Int) < (pn : Int) := by omega
        obtain rfl : k = pn := by omega
        have hres : wr.heap[w.heap.size + 1]? = some (.cells #[.slice none 0 0, .slice none 0 0, .slice none 0 0] 33) := blk_ex hx2 (by rw [blk_alloc, if_pos (by simp [go_sem])])
        have k0 := cell_blk (i := 0) hres rfl
        have k1 := cell_blk (i := 1) hres rfl
        have k2 := cell_blk (i := 2) hres rfl
        have z0 := frozen_blk (i := 0) hres
        have z1 := frozen_blk (i := 1) hres
        have z2 := frozen_blk (i := 2) hres
        have b0 := cell_blk (i := 0) hb2 rfl
        have b1 := cell_blk (i := 1) hb2 rfl
        have b2 := cell_blk (i := 2) hb2 rfl
        go_wp2
        have hres3 := blk_set_eq (i := 2) (u := .slice ap k cp) (blk_set_eq (i := 1) (u := .slice au un cu) (blk_set_eq (i := 0) (u := .slice av vn cv) hres))
        simp only [List.setIfInBounds_toArray, List.set_cons_succ, List.set_cons_zero] at hres3
        have ov3 := ((ov2.set_other (i := 0) (u := .slice av vn cv) hres (by decide)).set_other (i := 1) (u := .slice au un cu) (blk_set_eq hres) (by decide)).set_other (i := 2) (u := .slice ap k cp) (blk_set_eq (blk_set_eq hres)) (by decide)
        have ou3 := ((ou2.set_other (i := 0) (u := .slice av vn cv) hres (by decide)).set_other (i := 1) (u := .slice au un cu) (blk_set_eq hres) (by decide)).set_other (i := 2) (u := .slice ap k cp) (blk_set_eq (blk_set_eq hres)) (by decide)
        have op3 := ((op2.set_other (i := 0) (u := .slice av vn cv) hres (by decide)).set_other (i := 1) (u := .slice au un cu) (blk_set_eq hres) (by decide)).set_other (i := 2) (u := .slice ap k cp) (blk_set_eq (blk_set_eq hres)) (by decide)
        have hix3 := fun j hj => (((hix j hj).set_other (i := 0) (u := .slice av vn cv) hres (by decide)).set_other (i := 1) (u := .slice au un cu) (blk_set_eq hres) (by decide)).set_other (i := 2) (u := .slice ap k cp) (blk_set_eq (blk_set_eq hres)) (by decide)
        have hwr : ∃ y, wr = plus w y := (by with_reducible repeat (first | exact ex_refl _ | exact ex_more | apply ex_alloc | apply ex_plus | apply ex_drew | apply ex_drewN | (apply ex_on; assumption)))
        have hx3 := ex_set_new (i := 2) (u := .slice ap k cp) (g := w.heap.size + 1) (ex_set_new (i := 1) (u := .slice au un cu) (g := w.heap.size + 1) (ex_set_new (i := 0) (u := .slice av vn cv) (g := w.heap.size + 1) hwr (by omega)) (by omega)) (by omega)
        have lph := op2.1
        clear ov2 ou2 op2 hix hres k0 k1 k2 z0 z1 z2 b0 b1 b2 hb2 hx2 hwr
        generalize ((wr.setCell ⟨w.heap.size + 1, 0, none⟩ (.slice av vn cv)).setCell ⟨w.heap.size + 1, 1, none⟩ (.slice au un cu)).setCell ⟨w.heap.size + 1, 2, none⟩ (.slice ap k cp) = w3 at *
        have c0 := cell_blk (i := 0) hres3 rfl
        have c1 := cell_blk (i := 1) hres3 rfl
        have c2 := cell_blk (i := 2) hres3 rfl
        have hbs : w.heap.size ≤ ((w.alloc (.cells #[.slice va vn vc, .slice ua un uc, .slice pa k pc] 33)).alloc (.cells #[.slice none 0 0, .slice none 0 0, .slice none 0 0] 33)).heap.size := by simp [go_sem]; omega
        exact bodyPost_ret (v := .agg #[.slice av vn cv, .slice au un cu, .slice ap k cp]) (by simp [results, Try.results19, go_sem, c0, c1, c2]) rfl
          ⟨⟨av, vn, cv, au, un, cu, ap, k, cp⟩, rfl, hx3, ⟨phs, ov3.base hbs, ou3.base hbs, op3.base hbs, by omega, fun j hj => ((hkn j (by omega)).1).trans (hpp.one j (by omega)).kind, fun j hj => (hix3 j (by omega)).base hbs⟩, rfl, rfl, rfl⟩
end Go.Proofs.Ytkiahgkfgcjkgaa
