/- A pack of texts: MeshTw, Tx5, Nodes5, EdOwn, EdEqN. -/
import Derived.Deep.DeepCutAuto
import Derived.Test.YtcekcihijdipoaaGreatPT8
import Derived.Test.YtcekcihijdipoaaGreatPT3
import Derived.Test.YtcekcihijdipoaaGreatPT6
import Derived.Test.YtcekcihijdipoaaGreatPT7
import Derived.Test.YtcekcihijdipoaaGreatPT9
namespace Go.Proofs.YtcekcihijdipoaaGreat

section


open Go.RowKit Go.ChangeShapes Go.WideShapes Go.ChangeAt

set_option linter.unusedSimpArgs false

set_option linter.unusedVariables false

attribute [local go_sem] plus_size plus_drew dn_set dn_alloc dn_plus plus_dn cell_plus frozen_plus set_plus cell_alloc frozen_alloc set_alloc

attribute [local go_sem] eqarr_40 nearr_40 larr_40

attribute [local go_sem] eqarr_137 nearr_137 larr_137

attribute [local go_sem] isnil_47

attribute [local go_sem] isnil_57

attribute [local go_sem] isnil_58

attribute [local go_sem] isnil_59

structure TwinAt (T w : World) (h : MH) (phs : List PH) (m : Ms) : Prop where
  v : Own 43 3 fV T w h.va h.vn h.vc m.vs
  u : Own 137 2 f2 T w h.ua h.un h.uc m.uv
  p : Own 131 2 fP T w h.pa h.pn h.pc phs
  len : phs.length = m.ps.length
  kind : ∀ k, k < phs.length → (nth dPH phs k).kind = (nth dPr m.ps k).kind
  ix : ∀ k, k < phs.length → Own 3 1 fI T w (nth dPH phs k).ao (nth dPH phs k).n (nth dPH phs k).cap (nth dPr m.ps k).ix

def tw5S (i : Nat) : List Nat := match i with | 0 => [24] | 1 => [25] | 2 => [26] | 3 => [27] | 4 => [28] | 5 => [29] | 6 => [30] | 7 => [31] | _ => []

def tw5Φ (T : World) (g b gp k pn cp n1 cap1 : Nat) (ao1 : Option Addr) (ix : List Int) (i : Nat) (t : Nat → Value) (w' : World) : Prop := match i with
  | 0 => t 24 = .pointer (some ⟨g, 2, none⟩)
  | 1 => t 25 = .slice (some ⟨gp, 0, none⟩) pn cp
  | 2 => t 26 = .int .i64 k
  | 3 => t 27 = .pointer (some ⟨b, 1, none⟩)
  | 4 => t 28 = .slice ao1 n1 cap1
  | 5 => ∃ a c, t 29 = .slice a n1 c ∧ Own 3 1 fI T w' a n1 c ix
  | 6 => t 30 = .pointer (some ⟨gp, k * 2, none⟩)
  | 7 => t 31 = .pointer (some ⟨gp, k * 2 + 1, none⟩)
  | _ => True

theorem tw5Φ_mono (T : World) (g b gp k pn cp n1 cap1 : Nat) (ao1 : Option Addr) (ix : List Int) : ∀ i t t' w' x, tw5Φ T g b gp k pn cp n1 cap1 ao1 ix i t w' → (∀ s ∈ tw5S i, t' s = t s) → tw5Φ T g b gp k pn cp n1 cap1 ao1 ix i t' (plus w' x) := by
  intro i t t' w' x h hs'
  match i with
  | 0 => exact (hs' 24 (by decide)).trans h
  | 1 => exact (hs' 25 (by decide)).trans h
  | 2 => exact (hs' 26 (by decide)).trans h
  | 3 => exact (hs' 27 (by decide)).trans h
  | 4 => exact (hs' 28 (by decide)).trans h
  | 5 => obtain ⟨a, c, h1, h2⟩ := h; exact ⟨a, c, (hs' 29 (by decide)).trans h1, h2.plus x⟩
  | 6 => exact (hs' 30 (by decide)).trans h
  | 7 => exact (hs' 31 (by decide)).trans h
  | i + 8 => trivial

def twS (i : Nat) : List Nat := match i with | 0 => [6] | 1 => [7] | 2 => [8] | 3 => [9] | 4 => [10] | 5 => [11] | 6 => [12] | 7 => [13] | 8 => [14] | 9 => [15, 8, 11, 14] | 10 => [3] | _ => []

def twΦ (va ua pa : Option Addr) (vn vc un uc pn pc : Nat) (hs : List PH) (m : Ms) (w T : World) (i : Nat) (t : Nat → Value) (w' : World) : Prop := match i with
  | 0 => t 6 = .pointer (some ⟨w.heap.size, 0, none⟩)
  | 1 => t 7 = .slice va vn vc
  | 2 => ∃ a c, t 8 = .slice a vn c ∧ Own 43 3 fV T w' a vn c m.vs
  | 3 => t 9 = .pointer (some ⟨w.heap.size, 1, none⟩)
  | 4 => t 10 = .slice ua un uc
  | 5 => ∃ a c, t 11 = .slice a un c ∧ Own 137 2 f2 T w' a un c m.uv
  | 6 => t 12 = .pointer (some ⟨w.heap.size, 2, none⟩)
  | 7 => t 13 = .slice pa pn pc
  | 8 => ∃ a c, t 14 = .slice a pn c ∧ Own 131 2 fP T w' a pn c hs
  | 9 => t 15 = .agg #[t 8, t 11, t 14]
  | 10 => ∃ g, t 3 = .pointer (some ⟨g, 0, none⟩) ∧ T.heap.size ≤ g ∧ w'.heap[g]? = some (.cells #[.slice none 0 0, .slice none 0 0, .slice none 0 0] 61)
  | _ => True

theorem twΦ_mono (va ua pa : Option Addr) (vn vc un uc pn pc : Nat) (hs : List PH) (m : Ms) (w T : World) : ∀ i t t' w' x, twΦ va ua pa vn vc un uc pn pc hs m w T i t w' → (∀ s ∈ twS i, t' s = t s) → twΦ va ua pa vn vc un uc pn pc hs m w T i t' (plus w' x) := by
  intro i t t' w' x h hs'
  match i with
  | 0 => (have := hs' 6 (by decide)); exact this.trans h
  | 1 => (have := hs' 7 (by decide)); exact this.trans h
  | 2 => obtain ⟨a, c, h1, h2⟩ := h; exact ⟨a, c, (hs' 8 (by decide)).trans h1, h2.plus x⟩
  | 3 => (have := hs' 9 (by decide)); exact this.trans h
  | 4 => (have := hs' 10 (by decide)); exact this.trans h
  | 5 => obtain ⟨a, c, h1, h2⟩ := h; exact ⟨a, c, (hs' 11 (by decide)).trans h1, h2.plus x⟩
  | 6 => (have := hs' 12 (by decide)); exact this.trans h
  | 7 => (have := hs' 13 (by decide)); exact this.trans h
  | 8 => obtain ⟨a, c, h1, h2⟩ := h; exact ⟨a, c, (hs' 14 (by decide)).trans h1, h2.plus x⟩
  | 9 =>
    show t' 15 = .agg #[t' 8, t' 11, t' 14]
    rw [hs' 15 (by decide), hs' 8 (by decide), hs' 11 (by decide), hs' 14 (by decide)]
    exact h
  | 10 => obtain ⟨g, h1, h2, h3⟩ := h; exact ⟨g, (hs' 3 (by decide)).trans h1, h2, by rw [plus_block _ _ _ (Array.getElem?_eq_some_iff.1 h3).1]; exact h3⟩
  | i + 11 => trivial

set_option maxRecDepth 100000 in
set_option maxHeartbeats 4000000 in
theorem twin_calls (va ua pa : Option Addr) (vn vc un uc pn pc : Nat) (hs : List PH) (m : Ms) (w : World) (hm : MeshAt w ⟨va, vn, vc, ua, un, uc, pa, pn, pc⟩ hs m) (hf : FewM hs) (s1 : vn ≤ 1000) (s2 : un ≤ 1000) (s3 : pn ≤ 100) :
    Calls Tryz.prog 43 #[.agg #[.slice va vn vc, .slice ua un uc, .slice pa pn pc]] w fun e w' => ∃ h phs, e = .returned (fM h) ∧ (∃ y, w' = plus w y) ∧ TwinAt w w' h phs m ∧ h.vn = vn ∧ h.un = un ∧ h.pn = pn := by
  have hpp : PrimsAt w hs m.ps := hm.pp
  have lp := hm.pl.len
  have lq := hpp.len
  simp only at lp
  have hvl : Lay fV w va vn m.vs := hm.vl
  have hul : Lay f2 w ua un m.uv := hm.ul
  have hpl : Lay fP w pa pn hs := hm.pl
  go_enter Tryz.func43, Tryz.ntmps43
  go_wp2
  refine region_rel 11 twS (twΦ va ua pa vn vc un uc pn pc hs m w ((w.alloc (.cells #[.slice va vn vc, .slice ua un uc, .slice pa pn pc] 61)).alloc (.cells #[.slice none 0 0, .slice none 0 0, .slice none 0 0] 61))) (by kernel_rfl) (by kernel_rfl) rfl (twΦ_mono va ua pa vn vc un uc pn pc hs m w ((w.alloc (.cells #[.slice va vn vc, .slice ua un uc, .slice pa pn pc] 61)).alloc (.cells #[.slice none 0 0, .slice none 0 0, .slice none 0 0] 61))) ?steps ?fin
  case steps =>
    refine ⟨?_, ?_, ?_, ?_, ?_, ?_, ?_, ?_, ?_, ?_, ?_, trivial⟩
    · intro a w' hg hfree hdeep
      obtain ⟨x, rfl⟩ := hg
      have f1 := hfree 1 (by kernel_rfl)
      simp only [twΦ, got] at f1
      simp [go_sem] at f1
      unfold Oper.wp
      simp [go_sem, execOp, Act.eval, ↓IntWalk.iteOmega, f1]
      exact ⟨_, rfl, ex_refl _, by simp [twΦ, upd]⟩
    · intro a w' hg hfree hdeep
      obtain ⟨x, rfl⟩ := hg
      have d6 := hdeep 0 (by kernel_rfl)
      simp only [twΦ, got] at d6
      skip
      unfold Oper.wp
      simp [go_sem, execOp, Act.eval, ↓IntWalk.iteOmega, d6]
      exact ⟨_, rfl, ex_refl _, by simp [twΦ, upd]⟩
    · intro a w' hg hfree hdeep
      obtain ⟨x, rfl⟩ := hg
      have d7 := hdeep 1 (by kernel_rfl)
      simp only [twΦ, got] at d7
      skip
      unfold Oper.wp
      simp [go_sem, execOp, Act.eval, ↓IntWalk.iteOmega, d7]
      refine (cloneV _ _ _ m.vs _ (hvl.ex skM) (by omega) (fun h => (hm.vnil h).2)).mono ?_
      rintro e w1 ⟨ao1, n1, c1, rfl, hw1, o1⟩
      obtain rfl : vn = n1 := hvl.len.symm.trans o1.1
      exact ⟨_, rfl, hw1, (show ∃ a_ c_, upd (got a) (some 8) (.slice ao1 vn c1) 8 = .slice a_ vn c_ ∧ Own 43 3 fV ((w.alloc (.cells #[.slice va vn vc, .slice ua un uc, .slice pa pn pc] 61)).alloc (.cells #[.slice none 0 0, .slice none 0 0, .slice none 0 0] 61)) w1 a_ vn c_ m.vs from ⟨ao1, c1, by simp [upd], o1.base (by rw [plus_size]; omega)⟩)⟩
    · intro a w' hg hfree hdeep
      obtain ⟨x, rfl⟩ := hg
      have f1 := hfree 1 (by kernel_rfl)
      simp only [twΦ, got] at f1
      simp [go_sem] at f1
      unfold Oper.wp
      simp [go_sem, execOp, Act.eval, ↓IntWalk.iteOmega, f1]
      exact ⟨_, rfl, ex_refl _, by simp [twΦ, upd]⟩
    · intro a w' hg hfree hdeep
      obtain ⟨x, rfl⟩ := hg
      have d9 := hdeep 3 (by kernel_rfl)
      simp only [twΦ, got] at d9
      skip
      unfold Oper.wp
      simp [go_sem, execOp, Act.eval, ↓IntWalk.iteOmega, d9]
      exact ⟨_, rfl, ex_refl _, by simp [twΦ, upd]⟩
    · intro a w' hg hfree hdeep
      obtain ⟨x, rfl⟩ := hg
      have d10 := hdeep 4 (by kernel_rfl)
      simp only [twΦ, got] at d10
      skip
      unfold Oper.wp
      simp [go_sem, execOp, Act.eval, ↓IntWalk.iteOmega, d10]
      refine (clone2 _ _ _ m.uv _ (hul.ex skM) (by omega) (fun h => (hm.unil h).2)).mono ?_
      rintro e w1 ⟨ao1, n1, c1, rfl, hw1, o1⟩
      obtain rfl : un = n1 := hul.len.symm.trans o1.1
      exact ⟨_, rfl, hw1, (show ∃ a_ c_, upd (got a) (some 11) (.slice ao1 un c1) 11 = .slice a_ un c_ ∧ Own 137 2 f2 ((w.alloc (.cells #[.slice va vn vc, .slice ua un uc, .slice pa pn pc] 61)).alloc (.cells #[.slice none 0 0, .slice none 0 0, .slice none 0 0] 61)) w1 a_ un c_ m.uv from ⟨ao1, c1, by simp [upd], o1.base (by rw [plus_size]; omega)⟩)⟩
    · intro a w' hg hfree hdeep
      obtain ⟨x, rfl⟩ := hg
      have f1 := hfree 1 (by kernel_rfl)
      simp only [twΦ, got] at f1
      simp [go_sem] at f1
      unfold Oper.wp
      simp [go_sem, execOp, Act.eval, ↓IntWalk.iteOmega, f1]
      exact ⟨_, rfl, ex_refl _, by simp [twΦ, upd]⟩
    · intro a w' hg hfree hdeep
      obtain ⟨x, rfl⟩ := hg
      have d12 := hdeep 6 (by kernel_rfl)
      simp only [twΦ, got] at d12
      skip
      unfold Oper.wp
      simp [go_sem, execOp, Act.eval, ↓IntWalk.iteOmega, d12]
      exact ⟨_, rfl, ex_refl _, by simp [twΦ, upd]⟩
    · intro a w' hg hfree hdeep
      obtain ⟨x, rfl⟩ := hg
      have d13 := hdeep 7 (by kernel_rfl)
      simp only [twΦ, got] at d13
      skip
      unfold Oper.wp
      simp [go_sem, execOp, Act.eval, ↓IntWalk.iteOmega, d13]
      refine (cloneP _ _ _ hs _ (hpl.ex skM) (by omega) (fun h => (hm.pnil h).2)).mono ?_
      rintro e w1 ⟨ao1, n1, c1, rfl, hw1, o1⟩
      obtain rfl : pn = n1 := hpl.len.symm.trans o1.1
      exact ⟨_, rfl, hw1, (show ∃ a_ c_, upd (got a) (some 14) (.slice ao1 pn c1) 14 = .slice a_ pn c_ ∧ Own 131 2 fP ((w.alloc (.cells #[.slice va vn vc, .slice ua un uc, .slice pa pn pc] 61)).alloc (.cells #[.slice none 0 0, .slice none 0 0, .slice none 0 0] 61)) w1 a_ pn c_ hs from ⟨ao1, c1, by simp [upd], o1.base (by rw [plus_size]; omega)⟩)⟩
    · intro a w' hg hfree hdeep
      obtain ⟨x, rfl⟩ := hg
      obtain ⟨av, cv, e8, _⟩ : ∃ a_ c_, got a 8 = .slice a_ vn c_ ∧ _ := hdeep 2 (by kernel_rfl)
      obtain ⟨au, cu, e11, _⟩ : ∃ a_ c_, got a 11 = .slice a_ un c_ ∧ _ := hdeep 5 (by kernel_rfl)
      obtain ⟨ap, cp, e14, _⟩ : ∃ a_ c_, got a 14 = .slice a_ pn c_ ∧ _ := hdeep 8 (by kernel_rfl)
      have g8 := e8
      have g11 := e11
      have g14 := e14
      simp only [got] at g8 g11 g14
      simp at g8 g11 g14
      unfold Oper.wp
      simp [go_sem, execOp, Act.eval, g8, g11, g14]
      exact ⟨_, rfl, ex_refl _, by simp [twΦ, upd, e8, e11, e14]⟩
    · intro a w' hg hfree hdeep
      obtain ⟨x, rfl⟩ := hg
      unfold Oper.wp
      simp [go_sem, execOp, Act.eval]
      exact ⟨_, rfl, ex_alloc (ex_refl _), (show ∃ g, upd (got a) (some 3) _ 3 = .pointer (some ⟨g, 0, none⟩) ∧ _ from ⟨_, by simp [upd]; rfl, by simp [go_sem], by rw [blk_alloc, if_pos (by simp [go_sem])]⟩)⟩
  case fin =>
    rintro t w1 hg hΦ o ho
    have h2 := hΦ 2 (by decide)
    have h5 := hΦ 5 (by decide)
    have h8 := hΦ 8 (by decide)
    have h9 := hΦ 9 (by decide)
    have h10 := hΦ 10 (by decide)
    have h0 := hΦ 0 (by decide)
    have h1 := hΦ 1 (by decide)
    have h3 := hΦ 3 (by decide)
    have h4 := hΦ 4 (by decide)
    have h6 := hΦ 6 (by decide)
    have h7 := hΦ 7 (by decide)
    simp only [twΦ] at h0 h1 h2 h3 h4 h5 h6 h7 h8 h9 h10
    obtain ⟨av, cv, e8, ov⟩ := h2
    obtain ⟨au, cu, e11, ou⟩ := h5
    obtain ⟨ap, cp, e14, op⟩ := h8
    obtain ⟨g, e3, hgl, hgb⟩ := h10
    rw [e8, e11, e14] at h9
    simp only [List.getElem?_cons_succ, List.getElem?_cons_zero, Option.some.injEq] at ho
    subst ho
    simp only [putAll, List.take_succ_cons, List.take_zero, h0, h1, e8, h3, h4, e11, h6, h7, e14, h9, e3]
    simp only [Act.put]
    simp only [List.setIfInBounds_toArray, List.set_cons_succ, List.set_cons_zero]
    have k0 := cell_blk (i := 0) hgb rfl
    have k1 := cell_blk (i := 1) hgb rfl
    have k2 := cell_blk (i := 2) hgb rfl
    have z0 := frozen_blk (i := 0) hgb
    have z1 := frozen_blk (i := 1) hgb
    have z2 := frozen_blk (i := 2) hgb
    unfold Oper.wp
    simp [go_sem, execOp, Act.eval, k0, k1, k2, z0, z1, z2]
    clear k0 k1 k2 z0 z1 z2
    have n0 : g ≠ g → False := fun h => h rfl
    have ov2 := ((ov.set_other (i := 0) (u := .slice av vn cv) hgb (by decide)).set_other (i := 1) (u := .slice au un cu) (blk_set_eq hgb) (by decide)).set_other (i := 2) (u := .slice ap pn cp) (blk_set_eq (blk_set_eq hgb)) (by decide)
    have ou2 := ((ou.set_other (i := 0) (u := .slice av vn cv) hgb (by decide)).set_other (i := 1) (u := .slice au un cu) (blk_set_eq hgb) (by decide)).set_other (i := 2) (u := .slice ap pn cp) (blk_set_eq (blk_set_eq hgb)) (by decide)
    have op2 := ((op.set_other (i := 0) (u := .slice av vn cv) hgb (by decide)).set_other (i := 1) (u := .slice au un cu) (blk_set_eq hgb) (by decide)).set_other (i := 2) (u := .slice ap pn cp) (blk_set_eq (blk_set_eq hgb)) (by decide)
    have hb2 := blk_set_eq (i := 2) (u := .slice ap pn cp) (blk_set_eq (i := 1) (u := .slice au un cu) (blk_set_eq (i := 0) (u := .slice av vn cv) hgb))
    have hx2 := ex_set_new (i := 2) (u := .slice ap pn cp) (ex_set_new (i := 1) (u := .slice au un cu) (ex_set_new (i := 0) (u := .slice av vn cv) hg hgl) hgl) hgl
    simp only [List.setIfInBounds_toArray, List.set_cons_succ, List.set_cons_zero] at hb2
    generalize ((w1.setCell ⟨g, 0, none⟩ (.slice av vn cv)).setCell ⟨g, 1, none⟩ (.slice au un cu)).setCell ⟨g, 2, none⟩ (.slice ap pn cp) = w2 at *
    clear hΦ ov ou op hgb hg h0 h1 h3 h4 h6 h7 h9 e8 e11 e14 e3 n0
    have q2 : w2.cell? ⟨w.heap.size, 2, none⟩ = some (.slice pa pn pc) := cell_ex hx2 (by simp [go_sem, ↓IntWalk.iteOmega])
    go_wp2
    go_loopw [19] (fun i wr => ∃ (k : Nat) (phs : List PH), k ≤ pn ∧ i = .int .i64 k ∧ (∃ y, wr = plus ((w.alloc (.cells #[.slice va vn vc, .slice ua un uc, .slice pa pn pc] 61)).alloc (.cells #[.slice none 0 0, .slice none 0 0, .slice none 0 0] 61)) y) ∧ wr.heap[g]? = some (.cells #[.slice av vn cv, .slice au un cu, .slice ap pn cp] 61) ∧ Own 43 3 fV ((w.alloc (.cells #[.slice va vn vc, .slice ua un uc, .slice pa pn pc] 61)).alloc (.cells #[.slice none 0 0, .slice none 0 0, .slice none 0 0] 61)) wr av vn cv m.vs ∧ Own 137 2 f2 ((w.alloc (.cells #[.slice va vn vc, .slice ua un uc, .slice pa pn pc] 61)).alloc (.cells #[.slice none 0 0, .slice none 0 0, .slice none 0 0] 61)) wr au un cu m.uv ∧ Own 131 2 fP ((w.alloc (.cells #[.slice va vn vc, .slice ua un uc, .slice pa pn pc] 61)).alloc (.cells #[.slice none 0 0, .slice none 0 0, .slice none 0 0] 61)) wr ap pn cp phs ∧ (∀ j, j < pn → (nth dPH phs j).kind = (nth dPH hs j).kind ∧ (nth dPH phs j).n = (nth dPH hs j).n) ∧ (∀ j, j < k → Own 3 1 fI ((w.alloc (.cells #[.slice va vn vc, .slice ua un uc, .slice pa pn pc] 61)).alloc (.cells #[.slice none 0 0, .slice none 0 0, .slice none 0 0] 61)) wr (nth dPH phs j).ao (nth dPH phs j).n (nth dPH phs j).cap (nth dPr m.ps j).ix)) (fun i _ => pn - (intOf i).toNat)
    case atStart => exact ⟨0, hs, Nat.zero_le _, rfl, hx2, hb2, ov2, ou2, op2, fun j hj => ⟨rfl, rfl⟩, fun j hj => by omega⟩
    case round =>
      clear hx2 hb2 ov2 ou2 op2 q2
      obtain ⟨k, phs, hk, rfl, hx2, hb2, ov2, ou2, op2, hkn, hix⟩ := hrel
      by_cases hkl : k < pn
      · have hplw := hpl.ex (w' := wr) snM
        obtain ⟨gm, off, rfl, hgm, hcell⟩ := hplw.some (by omega)
        obtain ⟨d0, d1⟩ := cellP hplw.len hcell (k := k) hkl
        have hp := hpp.one k (by omega)
        have hfk := hf k (by omega)
        have hknk := hkn k hkl
        generalize hpe : nth dPr m.ps k = p at *
        generalize hhe : nth dPH hs k = hh at *
        obtain ⟨kind, ao1, n1, cap1⟩ := hh
        obtain ⟨kind2, ix⟩ := p
        obtain ⟨hk1, hk2, hk3, hk4, hk5, hk6⟩ := hp
        simp only at d0 d1 hk1 hk2 hk3 hk4 hk5 hk6 hfk hknk
        subst hk1
        have ik : (k : Int) < (pn : Int) := by omega
        obtain ⟨gp, cur, rfl, hgp, hbp, hsz⟩ := op2.blk (by omega)
        have hgs := blk_lt hb2
        have hgps := blk_lt hbp
        have b2 := cell_blk (i := 2) hb2 rfl
        go_wp2
        refine region_rel 8 tw5S (tw5Φ ((w.alloc (.cells #[.slice va vn vc, .slice ua un uc, .slice (some ⟨gm, off, none⟩) pn pc] 61)).alloc (.cells #[.slice none 0 0, .slice none 0 0, .slice none 0 0] 61)) g wr.heap.size gp k pn cp n1 cap1 ao1 ix) (by kernel_rfl) (by kernel_rfl) rfl (tw5Φ_mono ((w.alloc (.cells #[.slice va vn vc, .slice ua un uc, .slice (some ⟨gm, off, none⟩) pn pc] 61)).alloc (.cells #[.slice none 0 0, .slice none 0 0, .slice none 0 0] 61)) g wr.heap.size gp k pn cp n1 cap1 ao1 ix) ?steps ?fin
        case steps =>
          refine ⟨?_, ?_, ?_, ?_, ?_, ?_, ?_, ?_, trivial⟩
          · intro a w' hg hfree hdeep
            obtain ⟨x, rfl⟩ := hg
            have f3 := hfree 3 (by kernel_rfl)
            simp only [tw5Φ, got] at f3
            simp [go_sem] at f3
            unfold Oper.wp
            simp [go_sem, execOp, Act.eval, ↓IntWalk.iteOmega, f3]
            exact ⟨_, rfl, ex_refl _, by simp [tw5Φ, upd]⟩
          · intro a w' hg hfree hdeep
            obtain ⟨x, rfl⟩ := hg
            have d24 := hdeep 0 (by kernel_rfl)
            simp only [tw5Φ, got] at d24
            skip
            unfold Oper.wp
            simp [go_sem, execOp, Act.eval, ↓IntWalk.iteOmega, d24, b2]
            exact ⟨_, rfl, ex_refl _, by simp [tw5Φ, upd]⟩
          · intro a w' hg hfree hdeep
            obtain ⟨x, rfl⟩ := hg
            have f4 := hfree 4 (by kernel_rfl)
            simp only [tw5Φ, got] at f4
            simp [go_sem] at f4
            unfold Oper.wp
            simp [go_sem, execOp, Act.eval, ↓IntWalk.iteOmega, f4]
            exact ⟨_, rfl, ex_refl _, by simp [tw5Φ, upd]⟩
          · intro a w' hg hfree hdeep
            obtain ⟨x, rfl⟩ := hg
            have f5 := hfree 5 (by kernel_rfl)
            simp only [tw5Φ, got] at f5
            simp [go_sem] at f5
            unfold Oper.wp
            simp [go_sem, execOp, Act.eval, ↓IntWalk.iteOmega, f5]
            exact ⟨_, rfl, ex_refl _, by simp [tw5Φ, upd]⟩
          · intro a w' hg hfree hdeep
            obtain ⟨x, rfl⟩ := hg
            have d27 := hdeep 3 (by kernel_rfl)
            simp only [tw5Φ, got] at d27
            skip
            unfold Oper.wp
            simp [go_sem, execOp, Act.eval, ↓IntWalk.iteOmega, d27]
            exact ⟨_, rfl, ex_refl _, by simp [tw5Φ, upd]⟩
          · intro a w' hg hfree hdeep
            obtain ⟨x, rfl⟩ := hg
            have d28 := hdeep 4 (by kernel_rfl)
            simp only [tw5Φ, got] at d28
            skip
            unfold Oper.wp
            simp [go_sem, execOp, Act.eval, ↓IntWalk.iteOmega, d28]
            refine (cloneI _ _ _ ix _ (hk6.ex snM) (by omega) (fun h => (hk5 h).2)).mono ?_
            rintro e w1 ⟨ao3, n3, c3, rfl, hw1, o1⟩
            obtain rfl : n1 = n3 := hk6.len.symm.trans o1.1
            exact ⟨_, rfl, hw1, (show ∃ a_ c_, upd (got a) (some 29) (.slice ao3 n1 c3) 29 = .slice a_ n1 c_ ∧ Own 3 1 fI ((w.alloc (.cells #[.slice va vn vc, .slice ua un uc, .slice (some ⟨gm, off, none⟩) pn pc] 61)).alloc (.cells #[.slice none 0 0, .slice none 0 0, .slice none 0 0] 61)) w1 a_ n1 c_ ix from ⟨ao3, c3, by simp [upd], o1.base (by have := size_ex hx2; simp [go_sem] at this ⊢; omega)⟩)⟩
          · intro a w' hg hfree hdeep
            obtain ⟨x, rfl⟩ := hg
            have d25 := hdeep 1 (by kernel_rfl)
            have d26 := hdeep 2 (by kernel_rfl)
            simp only [tw5Φ, got] at d25 d26
            skip
            unfold Oper.wp
            simp [go_sem, execOp, Act.eval, ↓IntWalk.iteOmega, d25, d26]
            exact ⟨_, rfl, ex_refl _, by simp [tw5Φ, upd]⟩
          · intro a w' hg hfree hdeep
            obtain ⟨x, rfl⟩ := hg
            have d30 := hdeep 6 (by kernel_rfl)
            simp only [tw5Φ, got] at d30
            skip
            unfold Oper.wp
            simp [go_sem, execOp, Act.eval, ↓IntWalk.iteOmega, d30]
            exact ⟨_, rfl, ex_refl _, by simp [tw5Φ, upd]⟩
        case fin =>
          rintro t w1 hg hΦ o ho
          have h0 := hΦ 0 (by decide)
          have h1 := hΦ 1 (by decide)
          have h2 := hΦ 2 (by decide)
          have h3 := hΦ 3 (by decide)
          have h4 := hΦ 4 (by decide)
          have h5 := hΦ 5 (by decide)
          have h6 := hΦ 6 (by decide)
          have h7 := hΦ 7 (by decide)
          clear hΦ
          simp only [tw5Φ] at h0 h1 h2 h3 h4 h5 h6 h7
          obtain ⟨a9, c9, e29, o9⟩ := h5
          simp only [List.getElem?_cons_succ, List.getElem?_cons_zero, Option.some.injEq] at ho
          subst ho
          simp only [putAll, List.take_succ_cons, List.take_zero, h0, h1, h2, h3, h4, e29, h6, h7]
          simp only [Act.put]
          simp only [List.setIfInBounds_toArray, List.set_cons_succ, List.set_cons_zero]
          have hwr : ∃ y, w1 = plus wr y := ex_trans (ex_alloc (ex_refl _)) hg
          have hbp1 := blk_ex hwr hbp
          have opw := op2.ex hwr
          obtain ⟨_, _, eqa, _, hcp⟩ := opw.lay.some (by omega)
          cases eqa
          obtain ⟨_, k1⟩ := cellP opw.1 hcp (k := k) hkl
          rw [Nat.zero_add] at k1
          have z1 := frozen_blk (i := k * 2 + 1) hbp1
          unfold Oper.wp
          simp [go_sem, execOp, Act.eval, k1, z1]
          have ng : gp ≠ g := by
            intro e9
            rw [e9, hb2] at hbp
            cases hbp
          have ov3 := (ov2.ex hwr).set_other (i := k * 2 + 1) (u := .slice a9 n1 c9) hbp1 (by decide)
          have ou3 := (ou2.ex hwr).set_other (i := k * 2 + 1) (u := .slice a9 n1 c9) hbp1 (by decide)
          have op3 := opw.set_self (u := .slice a9 n1 c9) k 1 ⟨(nth dPH phs k).kind, a9, n1, c9⟩ dPH hkl fP_c (by decide) rfl
          have b3 : (w1.setCell ⟨gp, k * 2 + 1, none⟩ (.slice a9 n1 c9)).heap[g]? = _ := (blk_set_ne ng).trans (blk_ex hwr hb2)
          have hx3 := ex_set_new (i := k * 2 + 1) (u := .slice a9 n1 c9) (ex_trans hx2 hwr) hgp
          have o93 := o9.set_other (i := k * 2 + 1) (u := .slice a9 n1 c9) hbp1 (by decide)
          have hix3 := fun j hj => ((hix j hj).ex hwr).set_other (i := k * 2 + 1) (u := .slice a9 n1 c9) hbp1 (by decide)
          have lph := op2.1
          generalize w1.setCell ⟨gp, k * 2 + 1, none⟩ (.slice a9 n1 c9) = w3 at *
          clear ov2 ou2 op2 hix hb2 hbp hbp1 opw hcp k1 z1 b2 h0 h1 h2 h3 h4 h6 h7 e29 o9 hwr hg hx2 hplw hcell
          go_wp2
          go_roundw
          case rel =>
            refine ⟨k + 1, phs.set k ⟨(nth dPH phs k).kind, a9, n1, c9⟩, by omega, by go_num, hx3, b3, ov3, ou3, op3, fun j hj => ?_, fun j hj => ?_⟩
            · rw [nth_set (by omega)]
              by_cases ej : j = k
              · rw [if_pos ej, ej, hhe]
                exact ⟨hknk.1, rfl⟩
              · rw [if_neg ej]
                exact hkn j hj
            · rw [nth_set (by omega)]
              by_cases ej : j = k
              · rw [if_pos ej, ej, hpe]
                exact o93
              · rw [if_neg ej]
                exact hix3 j (by omega)
          case measure => simp [intOf]; omega
      · have ik : ¬ (k : Int) < (pn : Int) := by omega
        obtain rfl : k = pn := by omega
        have hres : wr.heap[w.heap.size + 1]? = some (.cells #[.slice none 0 0, .slice none 0 0, .slice none 0 0] 61) := blk_ex hx2 (by rw [blk_alloc, if_pos (by simp [go_sem])])
        have k0 := cell_blk (i := 0) hres rfl
        have k1 := cell_blk (i := 1) hres rfl
        have k2 := cell_blk (i := 2) hres rfl
        have z0 := frozen_blk (i := 0) hres
        have z1 := frozen_blk (i := 1) hres
        have z2 := frozen_blk (i := 2) hres
        have b0 := cell_blk (i := 0) hb2 rfl
        have b1 := cell_blk (i := 1) hb2 rfl
        have b2 := cell_blk (i := 2) hb2 rfl
        go_wp2
        have hres3 := blk_set_eq (i := 2) (u := .slice ap k cp) (blk_set_eq (i := 1) (u := .slice au un cu) (blk_set_eq (i := 0) (u := .slice av vn cv) hres))
        simp only [List.setIfInBounds_toArray, List.set_cons_succ, List.set_cons_zero] at hres3
        have ov3 := ((ov2.set_other (i := 0) (u := .slice av vn cv) hres (by decide)).set_other (i := 1) (u := .slice au un cu) (blk_set_eq hres) (by decide)).set_other (i := 2) (u := .slice ap k cp) (blk_set_eq (blk_set_eq hres)) (by decide)
        have ou3 := ((ou2.set_other (i := 0) (u := .slice av vn cv) hres (by decide)).set_other (i := 1) (u := .slice au un cu) (blk_set_eq hres) (by decide)).set_other (i := 2) (u := .slice ap k cp) (blk_set_eq (blk_set_eq hres)) (by decide)
        have op3 := ((op2.set_other (i := 0) (u := .slice av vn cv) hres (by decide)).set_other (i := 1) (u := .slice au un cu) (blk_set_eq hres) (by decide)).set_other (i := 2) (u := .slice ap k cp) (blk_set_eq (blk_set_eq hres)) (by decide)
        have hix3 := fun j hj => (((hix j hj).set_other (i := 0) (u := .slice av vn cv) hres (by decide)).set_other (i := 1) (u := .slice au un cu) (blk_set_eq hres) (by decide)).set_other (i := 2) (u := .slice ap k cp) (blk_set_eq (blk_set_eq hres)) (by decide)
        have hwr : ∃ y, wr = plus w y := snM
        have hx3 := ex_set_new (i := 2) (u := .slice ap k cp) (g := w.heap.size + 1) (ex_set_new (i := 1) (u := .slice au un cu) (g := w.heap.size + 1) (ex_set_new (i := 0) (u := .slice av vn cv) (g := w.heap.size + 1) hwr (by omega)) (by omega)) (by omega)
        have lph := op2.1
        clear ov2 ou2 op2 hix hres k0 k1 k2 z0 z1 z2 b0 b1 b2 hb2 hx2 hwr
        generalize ((wr.setCell ⟨w.heap.size + 1, 0, none⟩ (.slice av vn cv)).setCell ⟨w.heap.size + 1, 1, none⟩ (.slice au un cu)).setCell ⟨w.heap.size + 1, 2, none⟩ (.slice ap k cp) = w3 at *
        have c0 := cell_blk (i := 0) hres3 rfl
        have c1 := cell_blk (i := 1) hres3 rfl
        have c2 := cell_blk (i := 2) hres3 rfl
        have hbs : w.heap.size ≤ ((w.alloc (.cells #[.slice va vn vc, .slice ua un uc, .slice pa k pc] 61)).alloc (.cells #[.slice none 0 0, .slice none 0 0, .slice none 0 0] 61)).heap.size := by simp [go_sem]; omega
        exact bodyPost_ret (v := .agg #[.slice av vn cv, .slice au un cu, .slice ap k cp]) (by simp [results, Tryz.results43, go_sem, c0, c1, c2]) rfl
          ⟨⟨av, vn, cv, au, un, cu, ap, k, cp⟩, rfl, hx3, ⟨phs, ov3.base hbs, ou3.base hbs, op3.base hbs, by omega, fun j hj => ((hkn j (by omega)).1).trans (hpp.one j (by omega)).kind, fun j hj => (hix3 j (by omega)).base hbs⟩, rfl, rfl, rfl⟩

end

section


open Go.RowKit Go.ChangeShapes Go.WideShapes Go.ChangeAt

set_option linter.unusedSimpArgs false

set_option linter.unusedVariables false

attribute [local go_sem] plus_size plus_drew dn_set dn_alloc dn_plus plus_dn cell_plus frozen_plus set_plus cell_alloc frozen_alloc set_alloc

theorem info_parts9 {P : Program} {e : TypeId} {z : Value} {c b : Nat} (h : (P.info? e).map (fun i => (i.zero, i.size, i.bytes)) = some (some z, c, b)) (hc : z.cells.size = c) : ∃ i z, P.info? e = some i ∧ i.zero = some z ∧ i.size = c ∧ i.bytes = b ∧ z.cells.size = c := by
  obtain ⟨i0, hi, hz0, hz1, hz2⟩ := info_parts h
  exact ⟨i0, z, hi, hz0, hz1, hz2, hc⟩

theorem kinC : Kin Tryz.prog 62 50 4 4 := ⟨Tryz.underlying62, info_parts9 (z := .agg #[.int .u8 0, .int .u8 0, .int .u8 0, .int .u8 0]) (by kernel_rfl) rfl, by decide⟩

theorem isnil_62 (ao : Option Addr) (n cap : Nat) (w : World) : (binOp .eql 62 (.slice ao n cap) (.slice none 0 0)).run Tryz.prog w = .ok (.bool ao.isNone) w := Lib.run_eql_slice_nil w _ _ ao n cap 0 0 Tryz.underlying62

attribute [local go_sem] isnil_62

theorem cloneC (ao : Option Addr) (n cap : Nat) (l : List Cl) (w : World) (hl : Lay fCl w ao n l) (hn : n ≤ 20000) (hz : ao = none → cap = 0) :
    Calls Tryz.prog 87 #[.slice ao n cap] w fun e w' => RetO 50 4 fCl w l e w' := by
  cases ao with
  | none =>
    obtain rfl : n = 0 := by rcases hl.at0 with h | ⟨g, off, h, _⟩; exact h; cases h
    obtain rfl := hz rfl
    obtain rfl := hl.zero
    go_enter Tryz.func87, Tryz.ntmps87
    go_wp2
    go_ret
    exact ⟨none, 0, 0, rfl, sk9, own_nil⟩
  | some a =>
    go_enter Tryz.func87, Tryz.ntmps87
    go_wp2_with (at_builtin; (refine wpList_append_lay (T := w) (l := []) rfl _ _ rfl kinC fCl_c fCl_1 rfl sk9 ⟨rfl, World.ownsRow_made w _ 0 (Nat.le_refl _) (by decide) rfl⟩ rfl (hl.ex sk9) (by omega) (by decide) ?_; intro ao' cap' y' hown'))
    go_ret
    rw [Nat.zero_add, List.nil_append] at hown'
    exact ⟨ao', _, cap', rfl, sk9, hown'⟩

def ttS (i : Nat) : List Nat := match i with | 0 => [3] | 1 => [4] | 2 => [5] | 3 => [6] | 4 => [7] | 5 => [8] | 6 => [9] | 7 => [10, 9] | _ => []

def ttΦ (w T : World) (W H : Int) (ao : Option Addr) (n cap : Nat) (l : List Cl) (i : Nat) (t : Nat → Value) (w' : World) : Prop := match i with
  | 0 => t 3 = .pointer (some ⟨w.heap.size, 0, none⟩)
  | 1 => t 4 = .int .i64 W
  | 2 => t 5 = .pointer (some ⟨w.heap.size, 1, none⟩)
  | 3 => t 6 = .int .i64 H
  | 4 => t 7 = .pointer (some ⟨w.heap.size, 2, none⟩)
  | 5 => t 8 = .slice ao n cap
  | 6 => ∃ a c, t 9 = .slice a n c ∧ Own 50 4 fCl T w' a n c l
  | 7 => ∃ a c, t 10 = .agg #[.int .i64 W, .int .i64 H, .slice a n c] ∧ t 9 = .slice a n c
  | _ => True

theorem ttΦ_mono (w T : World) (W H : Int) (ao : Option Addr) (n cap : Nat) (l : List Cl) : ∀ i t t' w' x, ttΦ w T W H ao n cap l i t w' → (∀ s ∈ ttS i, t' s = t s) → ttΦ w T W H ao n cap l i t' (plus w' x) := by
  intro i t t' w' x h hs'
  match i with
  | 0 => exact (hs' 3 (by decide)).trans h
  | 1 => exact (hs' 4 (by decide)).trans h
  | 2 => exact (hs' 5 (by decide)).trans h
  | 3 => exact (hs' 6 (by decide)).trans h
  | 4 => exact (hs' 7 (by decide)).trans h
  | 5 => exact (hs' 8 (by decide)).trans h
  | 6 => obtain ⟨a, c, e, o⟩ := h; exact ⟨a, c, (hs' 9 (by decide)).trans e, o.plus x⟩
  | 7 => obtain ⟨a, c, e1, e2⟩ := h; exact ⟨a, c, (hs' 10 (by decide)).trans e1, (hs' 9 (by decide)).trans e2⟩
  | i + 8 => trivial

set_option maxRecDepth 100000 in
set_option maxHeartbeats 2000000 in
theorem ttwin_calls (W H : Int) (ao : Option Addr) (n cap : Nat) (l : List Cl) (w : World) (hl : Lay fCl w ao n l) (hn : n ≤ 20000) (hz : ao = none → cap = 0) :
    Calls Tryz.prog 45 #[.agg #[.int .i64 W, .int .i64 H, .slice ao n cap]] w fun e w' => ∃ ao' cap', e = .returned (.agg #[.int .i64 W, .int .i64 H, .slice ao' n cap']) ∧ (∃ y, w' = plus w y) ∧ Own 50 4 fCl w w' ao' n cap' l := by
  go_enter Tryz.func45, Tryz.ntmps45
  go_wp2
  refine region_rel 8 ttS (ttΦ w ((w.alloc (.cells #[.int .i64 W, .int .i64 H, .slice ao n cap] 64)).alloc (.cells #[.int .i64 0, .int .i64 0, .slice none 0 0] 64)) W H ao n cap l) (by kernel_rfl) (by kernel_rfl) rfl (ttΦ_mono w ((w.alloc (.cells #[.int .i64 W, .int .i64 H, .slice ao n cap] 64)).alloc (.cells #[.int .i64 0, .int .i64 0, .slice none 0 0] 64)) W H ao n cap l) ?steps ?fin
  case steps =>
    refine ⟨?_, ?_, ?_, ?_, ?_, ?_, ?_, ?_, trivial⟩
    · intro a w' hg hfree hdeep
      obtain ⟨x, rfl⟩ := hg
      have f1_ := hfree 1 (by kernel_rfl)
      simp only [ttΦ, got] at f1_
      simp [go_sem] at f1_
      unfold Oper.wp
      simp [go_sem, execOp, Act.eval, ↓IntWalk.iteOmega, f1_]
      exact ⟨_, rfl, ex_refl _, by simp [ttΦ, upd]⟩
    · intro a w' hg hfree hdeep
      obtain ⟨x, rfl⟩ := hg
      have d0 := hdeep 0 (by kernel_rfl)
      simp only [ttΦ, got] at d0
      unfold Oper.wp
      simp [go_sem, execOp, Act.eval, ↓IntWalk.iteOmega, d0]
      exact ⟨_, rfl, ex_refl _, by simp [ttΦ, upd]⟩
    · intro a w' hg hfree hdeep
      obtain ⟨x, rfl⟩ := hg
      have f1_ := hfree 1 (by kernel_rfl)
      simp only [ttΦ, got] at f1_
      simp [go_sem] at f1_
      unfold Oper.wp
      simp [go_sem, execOp, Act.eval, ↓IntWalk.iteOmega, f1_]
      exact ⟨_, rfl, ex_refl _, by simp [ttΦ, upd]⟩
    · intro a w' hg hfree hdeep
      obtain ⟨x, rfl⟩ := hg
      have d2 := hdeep 2 (by kernel_rfl)
      simp only [ttΦ, got] at d2
      unfold Oper.wp
      simp [go_sem, execOp, Act.eval, ↓IntWalk.iteOmega, d2]
      exact ⟨_, rfl, ex_refl _, by simp [ttΦ, upd]⟩
    · intro a w' hg hfree hdeep
      obtain ⟨x, rfl⟩ := hg
      have f1_ := hfree 1 (by kernel_rfl)
      simp only [ttΦ, got] at f1_
      simp [go_sem] at f1_
      unfold Oper.wp
      simp [go_sem, execOp, Act.eval, ↓IntWalk.iteOmega, f1_]
      exact ⟨_, rfl, ex_refl _, by simp [ttΦ, upd]⟩
    · intro a w' hg hfree hdeep
      obtain ⟨x, rfl⟩ := hg
      have d4 := hdeep 4 (by kernel_rfl)
      simp only [ttΦ, got] at d4
      unfold Oper.wp
      simp [go_sem, execOp, Act.eval, ↓IntWalk.iteOmega, d4]
      exact ⟨_, rfl, ex_refl _, by simp [ttΦ, upd]⟩
    · intro a w' hg hfree hdeep
      obtain ⟨x, rfl⟩ := hg
      have d5 := hdeep 5 (by kernel_rfl)
      simp only [ttΦ, got] at d5
      unfold Oper.wp
      simp [go_sem, execOp, Act.eval, ↓IntWalk.iteOmega, d5]
      refine (cloneC _ _ _ l _ (hl.ex sk9) hn hz).mono ?_
      rintro e w1 ⟨a1, n1, c1, rfl, hw1, o1⟩
      obtain rfl : n = n1 := hl.len.symm.trans o1.1
      exact ⟨_, rfl, hw1, a1, c1, by simp [upd], o1.base (by rw [plus_size]; omega)⟩
    · intro a w' hg hfree hdeep
      obtain ⟨x, rfl⟩ := hg
      have d1 := hdeep 1 (by kernel_rfl)
      have d3 := hdeep 3 (by kernel_rfl)
      obtain ⟨a9, c9, e9, _⟩ : ∃ a_ c, got a 9 = .slice a_ n c ∧ _ := hdeep 6 (by kernel_rfl)
      simp only [ttΦ, got] at d1 d3
      have g9 := e9
      simp only [got] at g9
      simp at g9 d1 d3
      unfold Oper.wp
      simp [go_sem, execOp, Act.eval, ↓IntWalk.iteOmega, d1, d3, g9]
      exact ⟨_, rfl, ex_refl _, a9, c9, by simp [upd], by simp [upd]; exact e9⟩
  case fin =>
    rintro t w1 hg hΦ o ho
    have h0 := hΦ 0 (by decide)
    have h1 := hΦ 1 (by decide)
    have h2 := hΦ 2 (by decide)
    have h3 := hΦ 3 (by decide)
    have h4 := hΦ 4 (by decide)
    have h5 := hΦ 5 (by decide)
    obtain ⟨a9, c9, e9, o9⟩ := hΦ 6 (by decide)
    obtain ⟨b9, d9, e10, e10a⟩ := hΦ 7 (by decide)
    simp only [ttΦ] at h0 h1 h2 h3 h4 h5
    rw [e9] at e10a
    cases e10a
    simp only [List.getElem?_cons_succ, List.getElem?_cons_zero, Option.some.injEq] at ho
    subst ho
    simp only [putAll, List.take_succ_cons, List.take_zero, h0, h1, h2, h3, h4, h5, e9, e10]
    simp only [Act.put]
    simp only [List.setIfInBounds_toArray, List.set_cons_succ, List.set_cons_zero]
    have hgb : w1.heap[w.heap.size + 1]? = some (.cells #[.int .i64 0, .int .i64 0, .slice none 0 0] 64) := blk_ex hg (by rw [blk_alloc, if_pos (by simp [go_sem])])
    have k0 := cell_blk (i := 0) hgb rfl
    have k1 := cell_blk (i := 1) hgb rfl
    have k2 := cell_blk (i := 2) hgb rfl
    have z0 := frozen_blk (i := 0) hgb
    have z1 := frozen_blk (i := 1) hgb
    have z2 := frozen_blk (i := 2) hgb
    unfold Oper.wp
    simp [go_sem, execOp, Act.eval, k0, k1, k2, z0, z1, z2]
    have o2 := ((o9.set_other (i := 0) (u := .int .i64 W) hgb (by decide)).set_other (i := 1) (u := .int .i64 H) (blk_set_eq hgb) (by decide)).set_other (i := 2) (u := .slice a9 n c9) (blk_set_eq (blk_set_eq hgb)) (by decide)
    have rf := blk_set_eq (i := 2) (u := .slice a9 n c9) (blk_set_eq (i := 1) (u := .int .i64 H) (blk_set_eq (i := 0) (u := .int .i64 W) hgb))
    have hxf := ex_set_new (i := 2) (u := .slice a9 n c9) (g := w.heap.size + 1) (ex_set_new (i := 1) (u := .int .i64 H) (g := w.heap.size + 1) (ex_set_new (i := 0) (u := .int .i64 W) (g := w.heap.size + 1) (ex_trans (show ∃ y, ((w.alloc (.cells #[.int .i64 W, .int .i64 H, .slice ao n cap] 64)).alloc (.cells #[.int .i64 0, .int .i64 0, .slice none 0 0] 64)) = plus w y from sk9) hg) (by omega)) (by omega)) (by omega)
    clear o9 k0 k1 k2 z0 z1 z2 hgb hΦ
    generalize ((w1.setCell ⟨w.heap.size + 1, 0, none⟩ (.int .i64 W)).setCell ⟨w.heap.size + 1, 1, none⟩ (.int .i64 H)).setCell ⟨w.heap.size + 1, 2, none⟩ (.slice a9 n c9) = w9 at *
    have f0 := cell_blk (i := 0) rf rfl
    have f1 := cell_blk (i := 1) rf rfl
    have f2 := cell_blk (i := 2) rf rfl
    have hB : w.heap.size ≤ ((w.alloc (.cells #[.int .i64 W, .int .i64 H, .slice ao n cap] 64)).alloc (.cells #[.int .i64 0, .int .i64 0, .slice none 0 0] 64)).heap.size := by simp [go_sem]; omega
    go_wp2
    exact bodyPost_ret (v := .agg #[.int .i64 W, .int .i64 H, .slice a9 n c9]) (by simp [results, Tryz.results45, go_sem, f0, f1, f2]) rfl ⟨a9, c9, rfl, hxf, o2.base hB⟩

end

section


open Go.RowKit Go.ChangeShapes Go.WideShapes Go.ChangeAt

set_option linter.unusedSimpArgs false

set_option linter.unusedVariables false

attribute [local go_sem] plus_size plus_drew dn_set dn_alloc dn_plus plus_dn cell_plus frozen_plus set_plus cell_alloc frozen_alloc set_alloc

theorem Own.cap_le {α : Type} {f : α → List Value} {w T : World} {ao : Option Addr} {n cap c : Nat} {l : List α} {e : TypeId} (h : Own e c f T w ao n cap l) : n ≤ cap := by
  rcases h.2.2 with ⟨e1, h0⟩ | ⟨k, cp, cu, e1, _, _, h4, _⟩
  · simp only [Value.slice.injEq] at e1; omega
  · simp only [Value.slice.injEq] at e1; omega

structure GrOwn (T w : World) (ao : Option Addr) (n cap : Nat) (ko : Option Addr) (kn kcap : Nat) (hs : List RH) (g : Gr) : Prop where
  sl : Own 86 2 fS T w ao n cap g.sl
  kh : Own 88 1 fR T w ko kn kcap hs
  len : hs.length = g.ks.length
  row : ∀ k, k < hs.length → Own 32 2 f2 T w (nth dRH hs k).ao (nth dRH hs k).n (nth dRH hs k).cap (nth [] g.ks k)

section

variable {T T' w w' : World} {ao ko : Option Addr} {n cap kn kcap : Nat} {hs : List RH} {g : Gr}

theorem GrOwn.ex (h : GrOwn T w ao n cap ko kn kcap hs g) (hw : ∃ x, w' = plus w x) : GrOwn T w' ao n cap ko kn kcap hs g := ⟨h.sl.ex hw, h.kh.ex hw, h.len, fun k hk => (h.row k hk).ex hw⟩

theorem GrOwn.base (h : GrOwn T w ao n cap ko kn kcap hs g) (hT : T'.heap.size ≤ T.heap.size) : GrOwn T' w ao n cap ko kn kcap hs g := ⟨h.sl.base hT, h.kh.base hT, h.len, fun k hk => (h.row k hk).base hT⟩

theorem GrOwn.kl (h : GrOwn T w ao n cap ko kn kcap hs g) : g.ks.length = kn := h.len.symm.trans h.kh.1

theorem GrOwn.at (h : GrOwn T w ao n cap ko kn kcap hs g) (h1 : n ≤ 1000) (h2 : kn ≤ 1000) (h3 : ∀ k, k < g.ks.length → (nth [] g.ks k).length ≤ 1000) : GrAt w ao n ko kn hs g :=
  ⟨h.sl.lay, h.kh.lay, h.len, fun k hk => (h.row k hk).lay, h1, h2, fun k hk => by rw [← (h.row k hk).1]; exact h3 k (by rw [← h.len]; exact hk), fun k hk => (h.row k hk).cap_le, fun k hk => (h.row k hk).none_zero⟩

theorem GrOwn.set_other {gb i : Nat} {u : Value} {cur : Array Value} {e' : TypeId} (h : GrOwn T w ao n cap ko kn kcap hs g) (hb : w.heap[gb]? = some (.cells cur e')) (h1 : e' ≠ 86) (h2 : e' ≠ 88) (h3 : e' ≠ 32) : GrOwn T (w.setCell ⟨gb, i, none⟩ u) ao n cap ko kn kcap hs g :=
  ⟨h.sl.set_other hb h1, h.kh.set_other hb h2, h.len, fun k hk => (h.row k hk).set_other hb h3⟩

end

structure TI (T : World) (p : Nat) (aa : Option Addr) (n ac : Nat) (L : List Sl) (ks : List (List (Int × Int))) (k : Nat) (ka : Option Addr) (kc : Nat) (hs : List RH) (wr : World) : Prop where
  ex : ∃ y, wr = plus T y
  box : wr.heap[p]? = some (.cells #[.slice aa n ac, .slice ka k kc] 27)
  sl : Own 86 2 fS T wr aa n ac L
  kh : Own 88 1 fR T wr ka k kc hs
  row : ∀ j, j < k → Own 32 2 f2 T wr (nth dRH hs j).ao (nth dRH hs j).n (nth dRH hs j).cap (nth [] ks j)

section

variable {T wr wr' : World} {p : Nat} {aa ka ka' : Option Addr} {n ac k kc kc' : Nat} {L : List Sl} {ks : List (List (Int × Int))} {hs hs' : List RH}

theorem TI.on (h : TI T p aa n ac L ks k ka kc hs wr) (hw : ∃ x, wr' = plus wr x) : TI T p aa n ac L ks k ka kc hs wr' := ⟨ex_trans h.ex hw, blk_ex hw h.box, h.sl.ex hw, h.kh.ex hw, fun j hj => (h.row j hj).ex hw⟩

end

def RetG1 (w : World) (n kn : Nat) (g : Gr) (e : Ending) (w' : World) : Prop := ∃ ao' cap' ko' kcap' hs', e = .returned (.agg #[.slice ao' n cap', .slice ko' kn kcap']) ∧ (∃ y, w' = plus w y) ∧ GrOwn w w' ao' n cap' ko' kn kcap' hs' g

end

section


open Go.RowKit

def PsB (m : Ms) : Prop := ∀ k, k < m.ps.length → 0 ≤ (nth dPr m.ps k).kind ∧ (nth dPr m.ps k).kind ≤ 255

def ClsB (l : List Cl) : Prop := ∀ k, k < l.length → ClB (nth cl0 l k)

def FewNd (n : Nd) : Prop := n.far.length ≤ 10000

def FewMs (m : Ms) : Prop := m.vs.length ≤ 1000 ∧ m.uv.length ≤ 1000 ∧ m.ps.length ≤ 100 ∧ ∀ k, k < m.ps.length → (nth dPr m.ps k).ix.length ≤ 1000

def FewTp (t : Tp) : Prop := t.l.length ≤ 20000

structure FewSc (s : Sc) : Prop where
  sl : s.g.sl.length ≤ 1000
  ks : s.g.ks.length ≤ 1000
  row : ∀ k, k < s.g.ks.length → (nth [] s.g.ks k).length ≤ 1000
  nn : s.ns.length ≤ 1000
  mn : s.ms.length ≤ 1000
  tn : s.ts.length ≤ 1000
  ns : ∀ k, k < s.ns.length → FewNd (nth nd0 s.ns k)
  ms : ∀ k, k < s.ms.length → FewMs (nth ms0 s.ms k)
  ts : ∀ k, k < s.ts.length → FewTp (nth tp0 s.ts k)

structure TexOwn (T w : World) (h : TH) (t : Tp) : Prop where
  we : h.w = t.w
  he : h.h = t.h
  tx : Own 50 4 fCl T w h.ao h.n h.cap t.l
  ok : ClsB t.l

structure MeshOwn (T w : World) (h : MH) (hs : List PH) (m : Ms) : Prop where
  t : TwinAt T w h hs m
  b : PsB m

section

variable {T T' w w' : World} {g : Nat} {cur cs : Array Value} {e' : TypeId}

theorem TexOwn.ex {h : TH} {t : Tp} (a : TexOwn T w h t) (hw : ∃ y, w' = plus w y) : TexOwn T w' h t := ⟨a.we, a.he, a.tx.ex hw, a.ok⟩

theorem TexOwn.base {h : TH} {t : Tp} (a : TexOwn T w h t) (hT : T'.heap.size ≤ T.heap.size) : TexOwn T' w h t := ⟨a.we, a.he, a.tx.base hT, a.ok⟩

theorem TexOwn.row_other {h : TH} {t : Tp} (a : TexOwn T w h t) (hb : w.heap[g]? = some (.cells cur e')) (he : e' ≠ 50) : TexOwn T (w.setRow g cs) h t := ⟨a.we, a.he, a.tx.row_other hb he, a.ok⟩

theorem TwinAt.ex {h : MH} {hs : List PH} {m : Ms} (a : TwinAt T w h hs m) (hw : ∃ y, w' = plus w y) : TwinAt T w' h hs m := ⟨a.v.ex hw, a.u.ex hw, a.p.ex hw, a.len, a.kind, fun k hk => (a.ix k hk).ex hw⟩

theorem TwinAt.base {h : MH} {hs : List PH} {m : Ms} (a : TwinAt T w h hs m) (hT : T'.heap.size ≤ T.heap.size) : TwinAt T' w h hs m := ⟨a.v.base hT, a.u.base hT, a.p.base hT, a.len, a.kind, fun k hk => (a.ix k hk).base hT⟩

theorem TwinAt.row_other {h : MH} {hs : List PH} {m : Ms} (a : TwinAt T w h hs m) (hb : w.heap[g]? = some (.cells cur e')) (h1 : e' ≠ 43) (h2 : e' ≠ 137) (h3 : e' ≠ 131) (h4 : e' ≠ 3) : TwinAt T (w.setRow g cs) h hs m :=
  ⟨a.v.row_other hb h1, a.u.row_other hb h2, a.p.row_other hb h3, a.len, a.kind, fun k hk => (a.ix k hk).row_other hb h4⟩

theorem MeshOwn.ex {h : MH} {hs : List PH} {m : Ms} (a : MeshOwn T w h hs m) (hw : ∃ y, w' = plus w y) : MeshOwn T w' h hs m := ⟨a.t.ex hw, a.b⟩

theorem MeshOwn.base {h : MH} {hs : List PH} {m : Ms} (a : MeshOwn T w h hs m) (hT : T'.heap.size ≤ T.heap.size) : MeshOwn T' w h hs m := ⟨a.t.base hT, a.b⟩

theorem MeshOwn.row_other {h : MH} {hs : List PH} {m : Ms} (a : MeshOwn T w h hs m) (hb : w.heap[g]? = some (.cells cur e')) (h1 : e' ≠ 43) (h2 : e' ≠ 137) (h3 : e' ≠ 131) (h4 : e' ≠ 3) : MeshOwn T (w.setRow g cs) h hs m := ⟨a.t.row_other hb h1 h2 h3 h4, a.b⟩

theorem NodeOwn.row_other {h : NH} {n : Nd} (a : NodeOwn T w h n) (hb : w.heap[g]? = some (.cells cur e')) (he : e' ≠ 3) : NodeOwn T (w.setRow g cs) h n := ⟨a.f, a.b, a.far.row_other hb he⟩

theorem NodeOwn.at {h : NH} {n : Nd} (a : NodeOwn T w h n) (hf : FewNd n) : NodeAt w h n := by
  have := a.far.1
  unfold FewNd at hf
  exact ⟨a.f, a.b, by omega, a.far.cap_le, a.far.none_zero, a.far.lay⟩

theorem MeshOwn.at {h : MH} {hs : List PH} {m : Ms} (a : MeshOwn T w h hs m) (hf : FewMs m) : MeshAt w h hs m := by
  have h1 := a.t.v.1
  have h2 := a.t.u.1
  have h3 := a.t.p.1
  have h4 := a.t.len
  obtain ⟨f1, f2, f3, f4⟩ := hf
  refine ⟨by omega, by omega, by omega, a.t.v.none_zero, a.t.u.none_zero, a.t.p.none_zero, a.t.v.lay, a.t.u.lay, a.t.p.lay, a.t.len, fun k hk => ?_⟩
  have h5 := (a.t.ix k hk).1
  have h6 := f4 k (by omega)
  have h7 := a.b k (by omega)
  exact ⟨a.t.kind k hk, h7.1, h7.2, by omega, (a.t.ix k hk).none_zero, (a.t.ix k hk).lay⟩

theorem TexOwn.at {h : TH} {t : Tp} (a : TexOwn T w h t) (hf : FewTp t) : TexAt w h t := by
  have := a.tx.1
  unfold FewTp at hf
  exact ⟨a.we, a.he, ⟨by omega, a.tx.none_zero, a.tx.lay, fun k hk => a.ok k (by omega)⟩⟩

end

structure ScOwn (T w : World) (h : SH) (x : SX) (s : Sc) : Prop where
  g : GrOwn T w h.ga h.gn h.gc h.ka h.kn h.kc x.gr s.g
  nl : Own 56 33 fN T w h.na h.nn h.nc x.nh
  nlen : x.nh.length = s.ns.length
  ns : ∀ k, k < x.nh.length → NodeOwn T w (nth nh0 x.nh k) (nth nd0 s.ns k)
  ml : Own 61 3 fMh T w h.ma h.mn h.mc x.mh
  mlen : x.mh.length = s.ms.length
  ms : ∀ k, k < x.mh.length → MeshOwn T w (nth mh0 x.mh k) (nth [] x.ph k) (nth ms0 s.ms k)
  tl : Own 64 3 fTh T w h.ta h.tn h.tc x.th
  tlen : x.th.length = s.ts.length
  ts : ∀ k, k < x.th.length → TexOwn T w (nth th0 x.th k) (nth tp0 s.ts k)
  root : s.root = (h.r0, h.r1)
  pl : x.ph.length = x.mh.length

structure ScAt (w : World) (h : SH) (x : SX) (s : Sc) : Prop where
  g : GrAt w h.ga h.gn h.ka h.kn x.gr s.g
  r : RestAt w h x s
  f : FewSc s

section

variable {T T' w w' : World} {h : SH} {x : SX} {s : Sc}

theorem ScOwn.ex (a : ScOwn T w h x s) (hw : ∃ y, w' = plus w y) : ScOwn T w' h x s :=
  ⟨a.g.ex hw, a.nl.ex hw, a.nlen, fun k hk => (a.ns k hk).ex hw, a.ml.ex hw, a.mlen, fun k hk => (a.ms k hk).ex hw, a.tl.ex hw, a.tlen, fun k hk => (a.ts k hk).ex hw, a.root, a.pl⟩

theorem ScOwn.base (a : ScOwn T w h x s) (hT : T'.heap.size ≤ T.heap.size) : ScOwn T' w h x s :=
  ⟨a.g.base hT, a.nl.base hT, a.nlen, fun k hk => (a.ns k hk).base hT, a.ml.base hT, a.mlen, fun k hk => (a.ms k hk).base hT, a.tl.base hT, a.tlen, fun k hk => (a.ts k hk).base hT, a.root, a.pl⟩

theorem ScOwn.at (a : ScOwn T w h x s) (f : FewSc s) : ScAt w h x s := by
  have g1 := a.g.sl.1
  have g2 := a.g.kl
  have n1 := a.nl.1
  have m1 := a.ml.1
  have t1 := a.tl.1
  have n2 := a.nlen
  have m2 := a.mlen
  have t2 := a.tlen
  have f1 := f.sl
  have f2 := f.ks
  have f4 := f.nn
  have f5 := f.mn
  have f6 := f.tn
  refine ⟨a.g.at (by omega) (by omega) f.row, ⟨a.nl.lay, ⟨a.nlen, fun k hk => (a.ns k hk).at (f.ns k (by omega))⟩, a.ml.lay, ⟨a.mlen, fun k hk => (a.ms k hk).at (f.ms k (by omega))⟩, a.tl.lay, ⟨a.tlen, fun k hk => (a.ts k hk).at (f.ts k (by omega))⟩, by omega, by omega, by omega, a.root⟩, f⟩

theorem ScAt.ex (a : ScAt w h x s) (hw : ∃ y, w' = plus w y) : ScAt w' h x s := ⟨a.g.ex hw, a.r.ex hw, a.f⟩

theorem ScAt.small (a : ScAt w h x s) : Small x := by
  refine ⟨fun k hk => ?_, fun k hk => ?_⟩
  · have h1 := a.r.ns.len
    have h2 := (a.r.ns.one k hk).lay.len
    have h3 := a.f.ns k (by omega)
    unfold FewNd at h3
    omega
  · have h1 := a.r.ms.len
    have h2 := a.r.ms.one k hk
    obtain ⟨f1, f2, f3, f4⟩ := a.f.ms k (by omega)
    have v := h2.vl.len
    have u := h2.ul.len
    have p := h2.pl.len
    have q := h2.pp.len
    refine ⟨by omega, by omega, by omega, fun j hj => ?_⟩
    have h3 := (h2.pp.one j hj).lay.len
    have h4 := f4 j (by omega)
    omega

theorem ScAt.nn (a : ScAt w h x s) : s.ns.length = h.nn ∧ x.nh.length = h.nn := ⟨a.r.ns.len ▸ a.r.nl.len, a.r.nl.len⟩

theorem ScAt.mn (a : ScAt w h x s) : s.ms.length = h.mn ∧ x.mh.length = h.mn := ⟨a.r.ms.len ▸ a.r.ml.len, a.r.ml.len⟩

theorem ScAt.tn (a : ScAt w h x s) : s.ts.length = h.tn ∧ x.th.length = h.tn := ⟨a.r.ts.len ▸ a.r.tl.len, a.r.tl.len⟩

end

theorem ps_at {m : Ms} (h : msOk m = true) {k : Nat} (hk : k < m.ps.length) : (nth dPr m.ps k).ix.length ≤ 200 := by
  simp only [msOk, psOk, Bool.and_eq_true, List.all_eq_true] at h
  have h1 := h.2.1 _ (nth_mem (d := dPr) hk)
  simp only [pOk, Bool.and_eq_true, decide_eq_true_eq] at h1
  have h2 := h1.1
  unfold prErr at h2
  split at h2
  · cases h2
  split at h2
  · cases h2
  · omega

theorem few_msErr {m : Ms} (h : msErr m = 0) : FewMs m := by
  unfold msErr at h
  split at h
  · cases h
  · rename_i h1
    split at h
    · rename_i h2
      refine ⟨by omega, by omega, by omega, fun k hk => ?_⟩
      have := ps_at h2 hk
      omega
    · cases h

theorem few_tex {t : Tp} (h : mayTp t = true) : FewTp t := by
  unfold mayTp mayT at h
  simp only [Bool.and_eq_true, decide_eq_true_eq, side_iff] at h
  obtain ⟨h1, h2, h3⟩ := h
  have : t.w * t.h ≤ 16 * 16 := Int.mul_le_mul h1.2 h2.2 (by omega) (by omega)
  unfold FewTp
  omega

theorem few_node {a b : Nat} {n : Nd} (h : mayNd a b n = true) : FewNd n := by
  unfold FewNd
  simp only [mayNd, Bool.and_eq_true] at h
  obtain ⟨h1, h2, h3, h4, h5, h6, h7⟩ := h
  split at h7
  · rename_i e5
    simp only [Bool.or_eq_true, Bool.and_eq_true, decide_eq_true_eq] at h6
    rcases h6 with h6 | h6
    · omega
    · omega
  · simp only [Bool.and_eq_true, distOk, decide_eq_true_eq] at h7
    omega

theorem few_may {s : Sc} (h : maySc s = true) : FewSc s := by
  obtain ⟨hg, hl, hst, hn, hr⟩ := may_parts h
  obtain ⟨g1, g2, g3, g4⟩ := gr_parts hg
  obtain ⟨m1, m2, m3, m4⟩ := stores_parts hst
  have ha := arOk_len g1
  refine ⟨by omega, by omega, fun k hk => ?_, by omega, by omega, by omega, fun k hk => ?_, fun k hk => few_msErr (m1 _ (nth_mem hk)), fun k hk => few_tex (m2 _ (nth_mem hk))⟩
  · have := (rows_at g3 hk).1
    omega
  · have hk2 := node_ok.1 (hn k hk)
    cases hv : (nth dSl s.g.sl k).live
    · rw [hk2.2.1 hv]
      exact Nat.zero_le _
    · exact few_node (hk2.1 hv)

end

section


open Go.RowKit Go.ChangeShapes Go.WideShapes Go.ChangeAt

set_option linter.unusedSimpArgs false

set_option linter.unusedVariables false

attribute [local go_sem] plus_size plus_drew dn_set dn_alloc dn_plus plus_dn cell_plus frozen_plus set_plus cell_alloc frozen_alloc set_alloc

set_option maxRecDepth 100000 in
set_option maxHeartbeats 4000000 in
theorem eqfN_calls (ao ao2 : Option Addr) (n n2 cap cap2 : Nat) (hs hs2 : List NH) (ns ns2 : List Nd) (w : World) (hn : n ≤ 100000) (hl : Lay fN w ao n hs) (hl2 : Lay fN w ao2 n2 hs2) (hA : NodesAt w hs ns) (hA2 : NodesAt w hs2 ns2) (hf : ∀ k, k < ns.length → FewNd (nth nd0 ns k)) (hf2 : ∀ k, k < ns2.length → FewNd (nth nd0 ns2 k)) {v : Bool} (hv : sameL sameNd nd0 ns ns2 = v) :
    Calls Tryz.prog 56 #[.slice ao n cap, .slice ao2 n2 cap2, .func (.func 48) #[] #[]] w fun e w' => e = .returned (.bool v) ∧ ∃ y, w' = plus w y := by
  have hlen := hl.len
  have hlen2 := hl2.len
  have alen := hA.len
  have alen2 := hA2.len
  by_cases hne : n = n2
  rotate_left
  · have dne : ((n : Int) == (n2 : Int)) = false := by rw [beq_eq_false_iff_ne]; omega
    rw [same_len (by omega)] at hv
    subst hv
    go_enter Tryz.func56, Tryz.ntmps56
    go_wp2
    go_ret
    exact ⟨rfl, sk9⟩
  subst hne
  replace hv := Hush9.mk hv
  go_enter Tryz.func56, Tryz.ntmps56
  go_wp2
  go_loopw [17] (fun i wr => ∃ k : Nat, k ≤ n ∧ i = .int .i64 k ∧ (∀ j, j < k → sameNd (nth nd0 ns j) (nth nd0 ns2 j) = true) ∧ ∃ y, wr = plus w y) (fun i _ => n - (intOf i).toNat)
  case atStart => exact ⟨0, Nat.zero_le _, rfl, fun j hj => by omega, sk9⟩
  case round =>
    obtain ⟨k, hk, rfl, hs', hx⟩ := hrel
    by_cases hkl : k < n
    · have ik : (k : Int) < (n : Int) := by omega
      obtain ⟨g1, o1, rfl, hg1, hc1⟩ := hl.some (by omega)
      obtain ⟨g2, o2, rfl, hg2, hc2⟩ := hl2.some (by omega)
      have hp := Hush9.mk (lay_part (d := nh0) hlen fN_c hc1 hkl)
      have hp2 := Hush9.mk (lay_part (d := nh0) hlen2 fN_c hc2 hkl)
      have a1 := (hA.one k (by omega)).ex hx
      have a2 := (hA2.one k (by omega)).ex hx
      have f1 : (nth nh0 hs k).n ≤ 10000 := by have h0 := hf k (by omega); have h2 := a1.lay.len; unfold FewNd at h0; omega
      have f2 : (nth nh0 hs2 k).n ≤ 10000 := by have h0 := hf2 k (by omega); have h2 := a2.lay.len; unfold FewNd at h0; omega
      obtain ⟨bq, hq⟩ : ∃ b, sameNd (nth nd0 ns k) (nth nd0 ns2 k) = b := ⟨_, rfl⟩
      replace hq := Hush9.mk hq
      obtain ⟨q, hqs⟩ : ∃ q, wr.heap.size = q := ⟨_, rfl⟩
      clear hc1 hc2
      go_upto_region 6 with (first | (refine wpList_load_part rfl 56 _ rfl g1 (o1 + k * 33) rfl (fN (nth nh0 hs k)) _ (fun j v hj => cell_ex (ex_trans hx sk9) (hp.it j v hj)) Tryz.underlying56 rfl (by kernel_rfl) ?_; simp only [Act.put, List.setIfInBounds_toArray, List.set_cons_succ, List.set_cons_zero]) | (refine wpList_store_box rfl 56 _ _ rfl q (fN (nth nh0 hs k)) (by simp [go_sem, hqs]) rfl _ _ (by rw [← hqs]; exact blk_new2 _ _) (by kernel_rfl) (by kernel_rfl) (fN_1 _) ?_))
      refine name_w (fun w' => (∃ y, w' = plus wr y) ∧ w'.heap[q]? = some (.cells (fN (nth nh0 hs k)).toArray 56) ∧ w'.heap.size = q + 1) ⟨ex_row_new sk9 (by omega), blk_row_eq (by rw [← hqs]; exact blk_new2 _ _), by rw [setRow_size, size_alloc, hqs]⟩ ?_
      try simp only [hqs]
      rintro w2 ⟨x2, kq, zq⟩
      go_upto_region 7 with (first | (refine wpList_load_part rfl 56 _ rfl g2 (o2 + k * 33) rfl (fN (nth nh0 hs2 k)) _ (fun j v hj => cell_ex (ex_trans (ex_trans hx x2) sk9) (hp2.it j v hj)) Tryz.underlying56 rfl (by kernel_rfl) ?_; simp only [Act.put, List.setIfInBounds_toArray, List.set_cons_succ, List.set_cons_zero]) | (refine wpList_store_box rfl 56 _ _ rfl (q + 1) (fN (nth nh0 hs2 k)) (by simp [go_sem, zq]) rfl _ _ (by rw [← zq]; exact blk_new2 _ _) (by kernel_rfl) (by kernel_rfl) (fN_1 _) ?_))
      refine name_w (fun w' => (∃ y, w' = plus w2 y) ∧ w'.heap[q + 1]? = some (.cells (fN (nth nh0 hs2 k)).toArray 56)) ⟨ex_row_new sk9 (by omega), blk_row_eq (by rw [← zq]; exact blk_new2 _ _)⟩ ?_
      try simp only [zq]
      rintro w3 ⟨x3, kq2⟩
      have kq1 := blk_ex x3 kq
      cases bq
      · go_wp2_with (first | (refine wpList_load_row rfl 56 _ rfl q rfl _ _ _ _ kq1 Tryz.underlying56 rfl (by kernel_rfl) ?_) | (refine wpList_load_row rfl 56 _ rfl (q + 1) rfl _ _ _ _ kq2 Tryz.underlying56 rfl (by kernel_rfl) ?_) | (go_at_call 48; refine (lsameNd_at (h := nth nh0 hs k) (h2 := nth nh0 hs2 k) (a1.ex (ex_trans x2 x3)) (a2.ex (ex_trans x2 x3)) f1 f2 hq.it).mono ?_; rintro e w' ⟨rfl, nx, rfl⟩))
        go_ret
        exact ⟨by rw [← hv.it, same_not (k := k) (by omega) hq.it]; rfl, ex_trans (ex_trans (ex_trans hx x2) x3) sk9⟩
      · go_wp2_with (first | (refine wpList_load_row rfl 56 _ rfl q rfl _ _ _ _ kq1 Tryz.underlying56 rfl (by kernel_rfl) ?_) | (refine wpList_load_row rfl 56 _ rfl (q + 1) rfl _ _ _ _ kq2 Tryz.underlying56 rfl (by kernel_rfl) ?_) | (go_at_call 48; refine (lsameNd_at (h := nth nh0 hs k) (h2 := nth nh0 hs2 k) (a1.ex (ex_trans x2 x3)) (a2.ex (ex_trans x2 x3)) f1 f2 hq.it).mono ?_; rintro e w' ⟨rfl, nx, rfl⟩))
        go_roundw
        case rel => exact ⟨k + 1, by omega, by go_num, upto_succ9 hs' hq.it, ex_trans (ex_trans (ex_trans hx x2) x3) sk9⟩
        case measure => simp [intOf]; omega
    · have ik : ¬ (k : Int) < (n : Int) := by omega
      obtain rfl : n = k := by omega
      have hall : sameL sameNd nd0 ns ns2 = true := same_all (by omega) (fun j hj => hs' j (by omega))
      go_wp2
      go_ret
      exact ⟨by rw [← hv.it, hall]; rfl, ex_trans hx sk9⟩

end

end Go.Proofs.YtcekcihijdipoaaGreat
