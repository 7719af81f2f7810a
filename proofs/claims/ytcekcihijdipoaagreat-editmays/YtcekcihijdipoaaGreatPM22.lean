/- A pack of texts: EdTwin, EdOwn3, EdNode, MeshRT. -/
import Derived.Test.YtcekcihijdipoaaGreatPM21
import Derived.Test.YtcekcihijdipoaaGreatPM16
import Derived.Test.YtcekcihijdipoaaGreatPM3
import Derived.Test.YtcekcihijdipoaaGreatPM18
import Derived.Test.YtcekcihijdipoaaGreatPM11
import Derived.Test.YtcekcihijdipoaaGreatPM5
import Derived.Test.YtcekcihijdipoaaGreatPM14
namespace Go.Proofs.YtcekcihijdipoaaGreat

section


open Go.RowKit Go.ChangeShapes Go.WideShapes Go.ChangeAt

set_option linter.unusedSimpArgs false

set_option linter.unusedVariables false

attribute [local go_sem] plus_size plus_drew dn_set dn_alloc dn_plus plus_dn cell_plus frozen_plus set_plus cell_alloc frozen_alloc set_alloc

def SaysG (T w' : World) (g : Gr) (n kn : Nat) (v : Value) : Prop := ∃ ao' cap' ko' kcap' hs', v = .agg #[.slice ao' n cap', .slice ko' kn kcap'] ∧ GrOwn T w' ao' n cap' ko' kn kcap' hs' g

def SaysN (T w' : World) (ns : List Nd) (n : Nat) (v : Value) : Prop := ∃ ao' cap' hs', v = .slice ao' n cap' ∧ Own 56 33 fN T w' ao' n cap' hs' ∧ (∀ k, k < n → NodeOwn T w' (nth nh0 hs' k) (nth nd0 ns k))

def SaysM (T w' : World) (ns : List Ms) (n : Nat) (v : Value) : Prop := ∃ ao' cap' hs' ps', v = .slice ao' n cap' ∧ Own 61 3 fMh T w' ao' n cap' hs' ∧ ps'.length = n ∧ (∀ k, k < n → MeshOwn T w' (nth mh0 hs' k) (nth [] ps' k) (nth ms0 ns k))

def SaysT (T w' : World) (ns : List Tp) (n : Nat) (v : Value) : Prop := ∃ ao' cap' hs', v = .slice ao' n cap' ∧ Own 64 3 fTh T w' ao' n cap' hs' ∧ (∀ k, k < n → TexOwn T w' (nth th0 hs' k) (nth tp0 ns k))

section

variable {T T' w w' : World} {n kn : Nat} {v : Value}

theorem SaysG.ex {g : Gr} (h : SaysG T w g n kn v) (hw : ∃ y, w' = plus w y) : SaysG T w' g n kn v := by
  obtain ⟨a, c, k, kc, hs, h1, h2⟩ := h
  exact ⟨a, c, k, kc, hs, h1, h2.ex hw⟩

theorem SaysN.ex {ns : List Nd} (h : SaysN T w ns n v) (hw : ∃ y, w' = plus w y) : SaysN T w' ns n v := by
  obtain ⟨a, c, hs, h1, h2, h3⟩ := h
  exact ⟨a, c, hs, h1, h2.ex hw, fun k hk => (h3 k hk).ex hw⟩

theorem SaysM.ex {ns : List Ms} (h : SaysM T w ns n v) (hw : ∃ y, w' = plus w y) : SaysM T w' ns n v := by
  obtain ⟨a, c, hs, ps, h1, h2, hl, h3⟩ := h
  exact ⟨a, c, hs, ps, h1, h2.ex hw, hl, fun k hk => (h3 k hk).ex hw⟩

theorem SaysT.ex {ns : List Tp} (h : SaysT T w ns n v) (hw : ∃ y, w' = plus w y) : SaysT T w' ns n v := by
  obtain ⟨a, c, hs, h1, h2, h3⟩ := h
  exact ⟨a, c, hs, h1, h2.ex hw, fun k hk => (h3 k hk).ex hw⟩

theorem says_sc {g : Gr} {ns : List Nd} {ms : List Ms} {ts : List Tp} {r0 r1 : Int} {gn kn nn mn tn : Nat} {vg vn vm vt : Value} (hg : SaysG T w g gn kn vg) (hn : SaysN T w ns nn vn) (hm : SaysM T w ms mn vm) (ht : SaysT T w ts tn vt) (l1 : ns.length = nn) (l2 : ms.length = mn) (l3 : ts.length = tn) :
    ∃ (h : SH) (x : SX), vg = .agg #[.slice h.ga h.gn h.gc, .slice h.ka h.kn h.kc] ∧ vn = .slice h.na h.nn h.nc ∧ vm = .slice h.ma h.mn h.mc ∧ vt = .slice h.ta h.tn h.tc ∧ r0 = h.r0 ∧ r1 = h.r1 ∧ ScOwn T w h x ⟨g, ns, ms, ts, (r0, r1)⟩ := by
  obtain ⟨a1, c1, k1, kc1, hs1, rfl, o1⟩ := hg
  obtain ⟨a2, c2, hs2, rfl, o2, p2⟩ := hn
  obtain ⟨a3, c3, hs3, ps3, rfl, o3, l4, p3⟩ := hm
  obtain ⟨a4, c4, hs4, rfl, o4, p4⟩ := ht
  have n2 := o2.1
  have n3 := o3.1
  have n4 := o4.1
  exact ⟨⟨a1, gn, c1, k1, kn, kc1, a2, nn, c2, a3, mn, c3, a4, tn, c4, r0, r1⟩, ⟨hs1, hs2, hs3, ps3, hs4⟩, rfl, rfl, rfl, rfl, rfl, rfl, ⟨o1, o2, by simp only; omega, fun k hk => p2 k (by simp only at hk; omega), o3, by simp only; omega, fun k hk => p3 k (by simp only at hk; omega), o4, by simp only; omega, fun k hk => p4 k (by simp only at hk; omega), rfl, by simp only; omega⟩⟩

end

def teS (i : Nat) : List Nat := match i with | 0 => [3] | 1 => [4] | 2 => [5] | 3 => [6] | 4 => [7] | 5 => [8] | 6 => [9] | 7 => [10] | 8 => [11] | 9 => [12] | 10 => [13] | 11 => [14] | 12 => [15] | 13 => [16] | 14 => [17, 5, 8, 11, 14] | _ => []

def teΦ (W : World) (b : Nat) (ga ka na ma ta : Option Addr) (gn gc kn kc nn nc mn mc tn tc : Nat) (r0 r1 : Int) (sg : Gr) (sn : List Nd) (sm : List Ms) (st : List Tp) (i : Nat) (t : Nat → Value) (w' : World) : Prop := match i with
  | 0 => t 3 = .pointer (some ⟨b, 0, none⟩)
  | 1 => t 4 = .agg #[.slice ga gn gc, .slice ka kn kc]
  | 2 => SaysG W w' sg gn kn (t 5)
  | 3 => t 6 = .pointer (some ⟨b, 2, none⟩)
  | 4 => t 7 = .slice na nn nc
  | 5 => SaysN W w' sn nn (t 8)
  | 6 => t 9 = .pointer (some ⟨b, 3, none⟩)
  | 7 => t 10 = .slice ma mn mc
  | 8 => SaysM W w' sm mn (t 11)
  | 9 => t 12 = .pointer (some ⟨b, 4, none⟩)
  | 10 => t 13 = .slice ta tn tc
  | 11 => SaysT W w' st tn (t 14)
  | 12 => t 15 = .pointer (some ⟨b, 5, none⟩)
  | 13 => t 16 = .agg #[.int .i64 r0, .int .i64 r1]
  | 14 => ∃ a1 a2 v3 v4 v5, t 17 = .agg #[a1, a2, v3, v4, v5, .int .i64 r0, .int .i64 r1] ∧ t 5 = .agg #[a1, a2] ∧ t 8 = v3 ∧ t 11 = v4 ∧ t 14 = v5
  | _ => True

theorem teΦ_mono (W : World) (b : Nat) (ga ka na ma ta : Option Addr) (gn gc kn kc nn nc mn mc tn tc : Nat) (r0 r1 : Int) (sg : Gr) (sn : List Nd) (sm : List Ms) (st : List Tp) : ∀ i t t' w' x, teΦ W b ga ka na ma ta gn gc kn kc nn nc mn mc tn tc r0 r1 sg sn sm st i t w' → (∀ s ∈ teS i, t' s = t s) → teΦ W b ga ka na ma ta gn gc kn kc nn nc mn mc tn tc r0 r1 sg sn sm st i t' (plus w' x) := by
  intro i t t' w' x h hs'
  match i with
  | 0 => exact (hs' 3 (by decide)).trans h
  | 1 => exact (hs' 4 (by decide)).trans h
  | 2 => have := h.ex ⟨x, rfl⟩; rw [← hs' 5 (by decide)] at this; exact this
  | 3 => exact (hs' 6 (by decide)).trans h
  | 4 => exact (hs' 7 (by decide)).trans h
  | 5 => have := h.ex ⟨x, rfl⟩; rw [← hs' 8 (by decide)] at this; exact this
  | 6 => exact (hs' 9 (by decide)).trans h
  | 7 => exact (hs' 10 (by decide)).trans h
  | 8 => have := h.ex ⟨x, rfl⟩; rw [← hs' 11 (by decide)] at this; exact this
  | 9 => exact (hs' 12 (by decide)).trans h
  | 10 => exact (hs' 13 (by decide)).trans h
  | 11 => have := h.ex ⟨x, rfl⟩; rw [← hs' 14 (by decide)] at this; exact this
  | 12 => exact (hs' 15 (by decide)).trans h
  | 13 => exact (hs' 16 (by decide)).trans h
  | 14 => obtain ⟨a1, a2, v3, v4, v5, e0, e1, e2, e3, e4⟩ := h; exact ⟨a1, a2, v3, v4, v5, (hs' 17 (by decide)).trans e0, (hs' 5 (by decide)).trans e1, (hs' 8 (by decide)).trans e2, (hs' 11 (by decide)).trans e3, (hs' 14 (by decide)).trans e4⟩
  | i + 15 => trivial

set_option maxRecDepth 100000 in
set_option maxHeartbeats 8000000 in
theorem twin10_calls (h : SH) (xs : SX) (s : Sc) (w : World) (hA : ScAt w h xs s) : Calls Tryz.prog 15 #[vS h] w fun e w' => RetSc w s e w' := by
  have lnn := hA.nn.1
  have lmn := hA.mn.1
  have ltn := hA.tn.1
  have hG := hA.g
  have hR := hA.r
  have f := hA.f
  have b1 := f.nn
  have b2 := f.mn
  have b3 := f.tn
  have hroot := hR.root
  obtain ⟨sg, sn, sm, st, sr⟩ := s
  obtain ⟨ga, gn, gc, ka, kn, kc, na, nn, nc, ma, mn, mc, ta, tn, tc, r0, r1⟩ := h
  simp only at lnn lmn ltn hG b1 b2 b3 hroot
  subst hroot
  unfold vS
  simp only
  go_enter Tryz.func15, Tryz.ntmps15
  go_wp2
  refine name_w (fun w' => (∃ y, w' = plus w y) ∧ w'.heap[w.heap.size]? = some (.cells #[.slice ga gn gc, .slice ka kn kc, .slice na nn nc, .slice ma mn mc, .slice ta tn tc, .int .i64 r0, .int .i64 r1] 34) ∧ (∃ z : List Value, w'.heap[w.heap.size + 1]? = some (.cells z.toArray 34) ∧ z.length = 7) ∧ w'.heap.size = w.heap.size + 2) ⟨(by with_reducible repeat (first | exact ex_refl _ | exact ex_more9 | apply ex_alloc | apply ex_plus | apply ex_drew | apply ex_drewN)), blk_old (blk_new2 _ _), ⟨_, by rw [← size_alloc w]; exact blk_new2 _ _, rfl⟩, by rw [size_alloc, size_alloc]⟩ ?_
  rintro W ⟨x1, k1, ⟨z, k2, hz⟩, z1⟩
  obtain ⟨b, hb⟩ : ∃ b, w.heap.size = b := ⟨_, rfl⟩
  simp only [hb] at k1 k2 z1 ⊢
  have c0 := cell_blk (i := 0) k1 rfl
  have c1 := cell_blk (i := 1) k1 rfl
  have c2 := cell_blk (i := 2) k1 rfl
  have c3 := cell_blk (i := 3) k1 rfl
  have c4 := cell_blk (i := 4) k1 rfl
  have c5 := cell_blk (i := 5) k1 rfl
  have c6 := cell_blk (i := 6) k1 rfl
  have hG1 := hG.ex x1
  have hR1 := hR.ex x1
  refine region_rel 15 teS (teΦ W b ga ka na ma ta gn gc kn kc nn nc mn mc tn tc r0 r1 sg sn sm st) (by kernel_rfl) (by kernel_rfl) rfl (teΦ_mono W b ga ka na ma ta gn gc kn kc nn nc mn mc tn tc r0 r1 sg sn sm st) ?steps ?fin
  case steps =>
    refine ⟨?_, ?_, ?_, ?_, ?_, ?_, ?_, ?_, ?_, ?_, ?_, ?_, ?_, ?_, ?_, trivial⟩
    · intro a w' hg hfree hdeep
      obtain ⟨x, rfl⟩ := hg
      have f1_ := hfree 1 (by kernel_rfl)
      simp only [teΦ, got] at f1_
      simp [go_sem] at f1_
      unfold Oper.wp
      simp [go_sem, execOp, Act.eval, ↓IntWalk.iteOmega, f1_]
      exact ⟨_, rfl, ex_refl _, by simp [teΦ, upd]⟩
    · intro a w' hg hfree hdeep
      obtain ⟨x, rfl⟩ := hg
      have d0 := hdeep 0 (by kernel_rfl)
      simp only [teΦ, got] at d0
      have d_0 := cell_ex ⟨x, rfl⟩ c0
      have d_1 := cell_ex ⟨x, rfl⟩ c1
      unfold Oper.wp
      simp [go_sem, execOp, Act.eval, ↓IntWalk.iteOmega, d0, d_0, d_1]
      exact ⟨_, rfl, ex_refl _, by simp [teΦ, upd]⟩
    · intro a w' hg hfree hdeep
      obtain ⟨x, rfl⟩ := hg
      have d1 := hdeep 1 (by kernel_rfl)
      simp only [teΦ, got] at d1
      unfold Oper.wp
      simp [go_sem, execOp, Act.eval, ↓IntWalk.iteOmega, d1]
      refine (ntwin_calls _ _ _ _ _ _ xs.gr sg _ (hG1.ex (by with_reducible repeat (first | exact ex_refl _ | exact ex_more9 | apply ex_alloc | apply ex_plus | apply ex_drew | apply ex_drewN)))).mono ?_
      rintro e w2 ⟨a1, c1', k1', kc1, hs1, rfl, hw2, o1⟩
      exact ⟨_, rfl, hw2, by simp only [teΦ, upd]; simp; exact ⟨a1, c1', k1', kc1, hs1, rfl, o1.base (by rw [plus_size]; omega)⟩⟩
    · intro a w' hg hfree hdeep
      obtain ⟨x, rfl⟩ := hg
      have f1_ := hfree 1 (by kernel_rfl)
      simp only [teΦ, got] at f1_
      simp [go_sem] at f1_
      unfold Oper.wp
      simp [go_sem, execOp, Act.eval, ↓IntWalk.iteOmega, f1_]
      exact ⟨_, rfl, ex_refl _, by simp [teΦ, upd]⟩
    · intro a w' hg hfree hdeep
      obtain ⟨x, rfl⟩ := hg
      have d3 := hdeep 3 (by kernel_rfl)
      simp only [teΦ, got] at d3
      have d_2 := cell_ex ⟨x, rfl⟩ c2
      unfold Oper.wp
      simp [go_sem, execOp, Act.eval, ↓IntWalk.iteOmega, d3, d_2]
      exact ⟨_, rfl, ex_refl _, by simp [teΦ, upd]⟩
    · intro a w' hg hfree hdeep
      obtain ⟨x, rfl⟩ := hg
      have d4 := hdeep 4 (by kernel_rfl)
      simp only [teΦ, got] at d4
      unfold Oper.wp
      simp [go_sem, execOp, Act.eval, ↓IntWalk.iteOmega, d4]
      refine (twinsN_calls _ nn _ xs.nh sn _ (hR1.nl.ex (by with_reducible repeat (first | exact ex_refl _ | exact ex_more9 | apply ex_alloc | apply ex_plus | apply ex_drew | apply ex_drewN))) (hR1.ns.ex (by with_reducible repeat (first | exact ex_refl _ | exact ex_more9 | apply ex_alloc | apply ex_plus | apply ex_drew | apply ex_drewN))) f.ns (by omega)).mono ?_
      rintro e w2 ⟨a1, c1', hs1, rfl, hw2, o1, p1⟩
      exact ⟨_, rfl, hw2, by simp only [teΦ, upd]; simp; exact ⟨a1, c1', hs1, rfl, o1.base (by rw [plus_size]; omega), fun k hk => (p1 k hk).base (by rw [plus_size]; omega)⟩⟩
    · intro a w' hg hfree hdeep
      obtain ⟨x, rfl⟩ := hg
      have f1_ := hfree 1 (by kernel_rfl)
      simp only [teΦ, got] at f1_
      simp [go_sem] at f1_
      unfold Oper.wp
      simp [go_sem, execOp, Act.eval, ↓IntWalk.iteOmega, f1_]
      exact ⟨_, rfl, ex_refl _, by simp [teΦ, upd]⟩
    · intro a w' hg hfree hdeep
      obtain ⟨x, rfl⟩ := hg
      have d6 := hdeep 6 (by kernel_rfl)
      simp only [teΦ, got] at d6
      have d_3 := cell_ex ⟨x, rfl⟩ c3
      unfold Oper.wp
      simp [go_sem, execOp, Act.eval, ↓IntWalk.iteOmega, d6, d_3]
      exact ⟨_, rfl, ex_refl _, by simp [teΦ, upd]⟩
    · intro a w' hg hfree hdeep
      obtain ⟨x, rfl⟩ := hg
      have d7 := hdeep 7 (by kernel_rfl)
      simp only [teΦ, got] at d7
      unfold Oper.wp
      simp [go_sem, execOp, Act.eval, ↓IntWalk.iteOmega, d7]
      refine (twinsM_calls _ mn _ xs.mh xs.ph sm _ (hR1.ml.ex (by with_reducible repeat (first | exact ex_refl _ | exact ex_more9 | apply ex_alloc | apply ex_plus | apply ex_drew | apply ex_drewN))) (hR1.ms.ex (by with_reducible repeat (first | exact ex_refl _ | exact ex_more9 | apply ex_alloc | apply ex_plus | apply ex_drew | apply ex_drewN))) f.ms (by omega)).mono ?_
      rintro e w2 ⟨a1, c1', hs1, ps1, rfl, hw2, o1, l1, p1⟩
      exact ⟨_, rfl, hw2, by simp only [teΦ, upd]; simp; exact ⟨a1, c1', hs1, ps1, rfl, o1.base (by rw [plus_size]; omega), l1, fun k hk => (p1 k hk).base (by rw [plus_size]; omega)⟩⟩
    · intro a w' hg hfree hdeep
      obtain ⟨x, rfl⟩ := hg
      have f1_ := hfree 1 (by kernel_rfl)
      simp only [teΦ, got] at f1_
      simp [go_sem] at f1_
      unfold Oper.wp
      simp [go_sem, execOp, Act.eval, ↓IntWalk.iteOmega, f1_]
      exact ⟨_, rfl, ex_refl _, by simp [teΦ, upd]⟩
    · intro a w' hg hfree hdeep
      obtain ⟨x, rfl⟩ := hg
      have d9 := hdeep 9 (by kernel_rfl)
      simp only [teΦ, got] at d9
      have d_4 := cell_ex ⟨x, rfl⟩ c4
      unfold Oper.wp
      simp [go_sem, execOp, Act.eval, ↓IntWalk.iteOmega, d9, d_4]
      exact ⟨_, rfl, ex_refl _, by simp [teΦ, upd]⟩
    · intro a w' hg hfree hdeep
      obtain ⟨x, rfl⟩ := hg
      have d10 := hdeep 10 (by kernel_rfl)
      simp only [teΦ, got] at d10
      unfold Oper.wp
      simp [go_sem, execOp, Act.eval, ↓IntWalk.iteOmega, d10]
      refine (twinsT_calls _ tn _ xs.th st _ (hR1.tl.ex (by with_reducible repeat (first | exact ex_refl _ | exact ex_more9 | apply ex_alloc | apply ex_plus | apply ex_drew | apply ex_drewN))) (hR1.ts.ex (by with_reducible repeat (first | exact ex_refl _ | exact ex_more9 | apply ex_alloc | apply ex_plus | apply ex_drew | apply ex_drewN))) f.ts (by omega)).mono ?_
      rintro e w2 ⟨a1, c1', hs1, rfl, hw2, o1, p1⟩
      exact ⟨_, rfl, hw2, by simp only [teΦ, upd]; simp; exact ⟨a1, c1', hs1, rfl, o1.base (by rw [plus_size]; omega), fun k hk => (p1 k hk).base (by rw [plus_size]; omega)⟩⟩
    · intro a w' hg hfree hdeep
      obtain ⟨x, rfl⟩ := hg
      have f1_ := hfree 1 (by kernel_rfl)
      simp only [teΦ, got] at f1_
      simp [go_sem] at f1_
      unfold Oper.wp
      simp [go_sem, execOp, Act.eval, ↓IntWalk.iteOmega, f1_]
      exact ⟨_, rfl, ex_refl _, by simp [teΦ, upd]⟩
    · intro a w' hg hfree hdeep
      obtain ⟨x, rfl⟩ := hg
      have d12 := hdeep 12 (by kernel_rfl)
      simp only [teΦ, got] at d12
      have d_5 := cell_ex ⟨x, rfl⟩ c5
      have d_6 := cell_ex ⟨x, rfl⟩ c6
      unfold Oper.wp
      simp [go_sem, execOp, Act.eval, ↓IntWalk.iteOmega, d12, d_5, d_6]
      exact ⟨_, rfl, ex_refl _, by simp [teΦ, upd]⟩
    · intro a w' hg hfree hdeep
      obtain ⟨x, rfl⟩ := hg
      obtain ⟨a1, c1', k1', kc1, hs1, e5, _⟩ : SaysG W _ sg gn kn (got a 5) := hdeep 2 (by kernel_rfl)
      obtain ⟨a2, c2', hs2, e8, _⟩ : SaysN W _ sn nn (got a 8) := hdeep 5 (by kernel_rfl)
      obtain ⟨a3, c3', hs3, ps3, e11, _⟩ : SaysM W _ sm mn (got a 11) := hdeep 8 (by kernel_rfl)
      obtain ⟨a4, c4', hs4, e14, _⟩ : SaysT W _ st tn (got a 14) := hdeep 11 (by kernel_rfl)
      have e16 : got a 16 = .agg #[.int .i64 r0, .int .i64 r1] := hdeep 13 (by kernel_rfl)
      have g5 := e5
      have g8 := e8
      have g11 := e11
      have g14 := e14
      have g16 := e16
      simp only [got] at g5 g8 g11 g14 g16
      simp at g5 g8 g11 g14 g16
      unfold Oper.wp
      simp [go_sem, execOp, Act.eval, ↓IntWalk.iteOmega, g5, g8, g11, g14, g16]
      exact ⟨_, rfl, ex_refl _, .slice a1 gn c1', .slice k1' kn kc1, .slice a2 nn c2', .slice a3 mn c3', .slice a4 tn c4', by simp [upd], by simp [upd]; exact e5, by simp [upd]; exact e8, by simp [upd]; exact e11, by simp [upd]; exact e14⟩
  case fin =>
    rintro t w1 hg hΦ o ho
    have hr := hΦ 13 (by decide)
    obtain ⟨a1, a2, v3, v4, v5, e17, e5, e8, e11, e14⟩ := hΦ 14 (by decide)
    obtain ⟨h', x', q1, q2, q3, q4, q5, q6, own⟩ := says_sc (r0 := r0) (r1 := r1) (hΦ 2 (by decide)) (hΦ 5 (by decide)) (hΦ 8 (by decide)) (hΦ 11 (by decide)) lnn lmn ltn
    rw [q1] at e5
    rw [q2] at e8
    rw [q3] at e11
    rw [q4] at e14
    cases e5
    subst e8 e11 e14 q5 q6
    clear hΦ hr
    have kb := blk_ex hg k2
    have kr := blk_row_eq (cs := (scCells h').toArray) kb
    simp only [List.getElem?_cons_succ, List.getElem?_cons_zero, Option.some.injEq] at ho
    subst ho
    simp only [putAll, List.take_succ_cons, List.take_zero]
    simp only [Act.put]
    simp only [List.setIfInBounds_toArray, List.set_cons_succ, List.set_cons_zero]
    refine wp_store_row 34 _ _ rfl (b + 1) (scCells h').toArray rfl e17 _ _ kb (by kernel_rfl) (by simpa [scCells] using hz) (Array.all_eq_true_iff_forall_mem.2 fun v hv => scCells_1 _ v (by simpa using hv)) ?_
    have hx2 := ex_row_new (cs := (scCells h').toArray) (ex_trans x1 hg) (g := b + 1) (by omega)
    have own2 := (own.row_out (cs := (scCells h').toArray) (g := b + 1) (by omega)).base (T' := w) (by omega)
    generalize w1.setRow (b + 1) (scCells h').toArray = w2 at *
    go_wp2
    exact bodyPost_ret (v := vS h') (results_cell_row Tryz.results15 _ _ (b + 1) 34 _ _ _ rfl kr Tryz.underlying34 rfl (by kernel_rfl)) rfl ⟨h', x', rfl, hx2, own2⟩

end

section


open Go.RowKit

section

variable {T w w1 : World} {h : SH} {x : SX} {s : Sc} {ao' : Option Addr} {cap' : Nat}

theorem NodeOwn.grown {e : TypeId} {c : Nat} {α : Type} {f : α → List Value} {ao : Option Addr} {n cap : Nat} {l : List α} {hn : NH} {nd : Nd} (hgr : w.grownBy w1 (Value.ownBlock (.slice ao n cap))) (hown : Own e c f T w ao n cap l) (a : NodeOwn T w hn nd) (he : 3 ≠ e) : NodeOwn T w1 hn nd :=
  ⟨a.f, a.b, grown_own hgr hown a.far he⟩

theorem MeshOwn.grown {e : TypeId} {c : Nat} {α : Type} {f : α → List Value} {ao : Option Addr} {n cap : Nat} {l : List α} {hm : MH} {hs : List PH} {m : Ms} (hgr : w.grownBy w1 (Value.ownBlock (.slice ao n cap))) (hown : Own e c f T w ao n cap l) (a : MeshOwn T w hm hs m) (h1 : 43 ≠ e) (h2 : 137 ≠ e) (h3 : 131 ≠ e) (h4 : 3 ≠ e) : MeshOwn T w1 hm hs m :=
  ⟨⟨grown_own hgr hown a.t.v h1, grown_own hgr hown a.t.u h2, grown_own hgr hown a.t.p h3, a.t.len, a.t.kind, fun k hk => grown_own hgr hown (a.t.ix k hk) h4⟩, a.b⟩

theorem TexOwn.grown {e : TypeId} {c : Nat} {α : Type} {f : α → List Value} {ao : Option Addr} {n cap : Nat} {l : List α} {ht : TH} {t : Tp} (hgr : w.grownBy w1 (Value.ownBlock (.slice ao n cap))) (hown : Own e c f T w ao n cap l) (a : TexOwn T w ht t) (h1 : 50 ≠ e) : TexOwn T w1 ht t :=
  ⟨a.we, a.he, grown_own hgr hown a.tx h1, a.ok⟩

theorem GrOwn.grown {e : TypeId} {c : Nat} {α : Type} {f : α → List Value} {ao : Option Addr} {n cap : Nat} {l : List α} {ga ko : Option Addr} {gn gc kn kc : Nat} {hs : List RH} {g : Gr} (hgr : w.grownBy w1 (Value.ownBlock (.slice ao n cap))) (hown : Own e c f T w ao n cap l) (a : GrOwn T w ga gn gc ko kn kc hs g) (h1 : 86 ≠ e) (h2 : 88 ≠ e) (h3 : 32 ≠ e) : GrOwn T w1 ga gn gc ko kn kc hs g :=
  ⟨grown_own hgr hown a.sl h1, grown_own hgr hown a.kh h2, a.len, fun k hk => grown_own hgr hown (a.row k hk) h3⟩

theorem nth_app {α : Type} {d : α} {l : List α} {y : α} {k : Nat} : nth d (l ++ [y]) k = if k = l.length then y else nth d l k := by
  split
  · rename_i e; subst e; rw [nth_append_right (Nat.le_refl _), Nat.sub_self]; rfl
  · by_cases hk : k < l.length
    · rw [nth_append_left hk]
    · rw [nth_ge (l := l) (by omega), nth_ge (by simp; omega)]

theorem ScOwn.appNode (a : ScOwn T w h x s) {hn : NH} {n : Nd} (o : NodeOwn T w hn n) (hgr : w.grownBy w1 (Value.ownBlock (.slice h.na h.nn h.nc))) (on : Own 56 33 fN T w1 ao' (h.nn + 1) cap' (x.nh ++ [hn])) :
    ScOwn T w1 ⟨h.ga, h.gn, h.gc, h.ka, h.kn, h.kc, ao', h.nn + 1, cap', h.ma, h.mn, h.mc, h.ta, h.tn, h.tc, h.r0, h.r1⟩ ⟨x.gr, x.nh ++ [hn], x.mh, x.ph, x.th⟩ ⟨s.g, s.ns ++ [n], s.ms, s.ts, s.root⟩ := by
  have n1 := a.nl.1
  have n2 := a.nlen
  refine ⟨a.g.grown hgr a.nl (by decide) (by decide) (by decide), on, by simp only [List.length_append, List.length_cons, List.length_nil]; omega, fun j hj => ?_, grown_own hgr a.nl a.ml (by decide), a.mlen, fun k hk => (a.ms k hk).grown hgr a.nl (by decide) (by decide) (by decide) (by decide), grown_own hgr a.nl a.tl (by decide), a.tlen, fun k hk => (a.ts k hk).grown hgr a.nl (by decide), a.root, a.pl⟩
  simp only [List.length_append, List.length_cons, List.length_nil] at hj ⊢
  rw [nth_app, nth_app, n2]
  split
  · exact o.grown hgr a.nl (by decide)
  · exact (a.ns j (by omega)).grown hgr a.nl (by decide)

theorem ScOwn.appMesh (a : ScOwn T w h x s) {hm : MH} {hs : List PH} {m : Ms} (o : MeshOwn T w hm hs m) (hgr : w.grownBy w1 (Value.ownBlock (.slice h.ma h.mn h.mc))) (on : Own 61 3 fMh T w1 ao' (h.mn + 1) cap' (x.mh ++ [hm])) :
    ScOwn T w1 ⟨h.ga, h.gn, h.gc, h.ka, h.kn, h.kc, h.na, h.nn, h.nc, ao', h.mn + 1, cap', h.ta, h.tn, h.tc, h.r0, h.r1⟩ ⟨x.gr, x.nh, x.mh ++ [hm], x.ph ++ [hs], x.th⟩ ⟨s.g, s.ns, s.ms ++ [m], s.ts, s.root⟩ := by
  have n1 := a.ml.1
  have n2 := a.mlen
  have n3 := a.pl
  refine ⟨a.g.grown hgr a.ml (by decide) (by decide) (by decide), grown_own hgr a.ml a.nl (by decide), a.nlen, fun k hk => (a.ns k hk).grown hgr a.ml (by decide), on, by simp only [List.length_append, List.length_cons, List.length_nil]; omega, fun j hj => ?_, grown_own hgr a.ml a.tl (by decide), a.tlen, fun k hk => (a.ts k hk).grown hgr a.ml (by decide), a.root, by simp only [List.length_append, List.length_cons, List.length_nil]; omega⟩
  simp only [List.length_append, List.length_cons, List.length_nil] at hj ⊢
  rw [nth_app, nth_app, nth_app, n3, n2]
  split
  · exact o.grown hgr a.ml (by decide) (by decide) (by decide) (by decide)
  · exact (a.ms j (by omega)).grown hgr a.ml (by decide) (by decide) (by decide) (by decide)

theorem ScOwn.appTex (a : ScOwn T w h x s) {ht : TH} {t : Tp} (o : TexOwn T w ht t) (hgr : w.grownBy w1 (Value.ownBlock (.slice h.ta h.tn h.tc))) (on : Own 64 3 fTh T w1 ao' (h.tn + 1) cap' (x.th ++ [ht])) :
    ScOwn T w1 ⟨h.ga, h.gn, h.gc, h.ka, h.kn, h.kc, h.na, h.nn, h.nc, h.ma, h.mn, h.mc, ao', h.tn + 1, cap', h.r0, h.r1⟩ ⟨x.gr, x.nh, x.mh, x.ph, x.th ++ [ht]⟩ ⟨s.g, s.ns, s.ms, s.ts ++ [t], s.root⟩ := by
  have n1 := a.tl.1
  have n2 := a.tlen
  refine ⟨a.g.grown hgr a.tl (by decide) (by decide) (by decide), grown_own hgr a.tl a.nl (by decide), a.nlen, fun k hk => (a.ns k hk).grown hgr a.tl (by decide), grown_own hgr a.tl a.ml (by decide), a.mlen, fun k hk => (a.ms k hk).grown hgr a.tl (by decide) (by decide) (by decide) (by decide), on, by simp only [List.length_append, List.length_cons, List.length_nil]; omega, fun j hj => ?_, a.root, a.pl⟩
  simp only [List.length_append, List.length_cons, List.length_nil] at hj ⊢
  rw [nth_app, nth_app, n2]
  split
  · exact o.grown hgr a.tl (by decide)
  · exact (a.ts j (by omega)).grown hgr a.tl (by decide)

end

end

section


open Go.RowKit Go.ChangeShapes Go.WideShapes Go.ChangeAt

set_option linter.unusedSimpArgs false

set_option linter.unusedVariables false

attribute [local go_sem] plus_size plus_drew dn_set dn_alloc dn_plus plus_dn cell_plus frozen_plus set_plus cell_alloc frozen_alloc set_alloc

set_option maxRecDepth 100000 in
set_option maxHeartbeats 2000000 in
theorem node_calls (h : NH) (n : Nd) (w : World) (hN : NodeAt w h n) (s1 : h.n ≤ 10000) : Calls Tryz.prog 36 #[vN h] w fun e w' => RetNd w n e w' := by
  show Calls Tryz.prog 36 #[.agg (fN h).toArray] w fun e w' => RetNd w n e w'
  obtain ⟨cs, hcs⟩ : ∃ cs, fN h = cs := ⟨_, rfl⟩
  have hc : cs.length = 33 := by rw [← hcs]; rfl
  have hsz : cs.toArray.size = 33 := by simpa using hc
  have h1 : ∀ v ∈ cs, v.oneCell' = true := by rw [← hcs]; exact fN_1 h
  have hfar : cs[17]? = some (.slice h.ao h.n h.cap) := by rw [← hcs]; exact far_at h
  obtain ⟨b, hb⟩ : ∃ b, w.heap.size = b := ⟨_, rfl⟩
  rw [hcs]
  go_enter Tryz.func36, Tryz.ntmps36
  go_upto_region 1 with fail
  refine name_w (fun w' => (∃ y, w' = plus w y) ∧ w'.heap[b]? = some (.cells cs.toArray 56) ∧ (∃ z : List Value, w'.heap[b + 1]? = some (.cells z.toArray 56) ∧ z.length = 33) ∧ w'.heap.size = b + 2) ⟨(by with_reducible repeat (first | exact ex_refl _ | exact ex_more9 | apply ex_alloc | apply ex_plus | apply ex_drew | apply ex_drewN)), hb ▸ blk_old (blk_new2 _ _), ⟨_, by rw [← hb, ← size_alloc w]; exact blk_new2 _ _, rfl⟩, by rw [size_alloc, size_alloc, hb]⟩ ?_
  try simp only [hb]
  rintro w1 ⟨x1, k1, ⟨z, k2, hz⟩, z1⟩
  have p17 : w1.frozen? ⟨b, 17, none⟩ = false := frozen_blk k1
  go_upto_region 2 with (first | (refine wpList_load_row rfl 56 _ rfl b rfl _ _ _ _ k1 Tryz.underlying56 rfl (by rw [hsz]; kernel_rfl) ?_) | (refine wpList_store_box rfl 56 _ _ rfl (b + 2) cs (by simp [go_sem, z1]) rfl _ _ (by rw [← z1]; exact blk_new2 _ _) (by rw [hc]; kernel_rfl) (by simp [hc]) h1 ?_))
  refine name_w (fun w' => (∃ y, w' = plus w1 y) ∧ w'.heap[b + 2]? = some (.cells cs.toArray 56) ∧ w'.heap.size = b + 3) ⟨ex_row_new (by with_reducible repeat (first | exact ex_refl _ | exact ex_more9 | apply ex_alloc | apply ex_plus | apply ex_drew | apply ex_drewN)) (by omega), by first | exact blk_row_eq (by rw [← z1]; exact blk_new2 _ _) | (rw [← z1]; exact blk_row_eq (blk_new2 _ _)), by rw [setRow_size, size_alloc, z1]⟩ ?_
  rintro w2 ⟨x2, k3, z2⟩
  have q17 : w2.cell? ⟨b + 2, 17, none⟩ = some (.slice h.ao h.n h.cap) := cell_of k3 hfar
  have f17 : w2.frozen? ⟨b + 2, 17, none⟩ = false := frozen_blk k3
  go_upto_region 3 with fail
  refine name_w (fun w' => (∃ y, w' = plus w1 y) ∧ w'.heap[b + 2]? = some (.cells (cs.set 17 (.slice none 0 0)).toArray 56) ∧ w'.heap.size = b + 3) ⟨ex_set_new x2 (by omega), blk_set k3, by rw [size_set, z2]⟩ ?_
  rintro w3 ⟨x3, k4, z3⟩
  have c3 : (cs.set 17 (.slice none 0 0)).length = 33 := by rw [List.length_set, hc]
  have r17 : w3.cell? ⟨b + 2, 17, none⟩ = some (.slice none 0 0) := cell_of k4 (by rw [List.getElem?_set_self (by omega)])
  have r1 : w3.cell? ⟨b, 17, none⟩ = some (.slice h.ao h.n h.cap) := cell_ex x3 (cell_of k1 hfar)
  have hl3 := hN.lay.ex (ex_trans x1 x3)
  go_upto_region 4 with (at_builtin; (refine wpList_append_lay (T := w3) (l := []) rfl _ _ rfl kinI fI_c fI_1 rfl (ex_refl _) own_nil rfl hl3 (by omega) (by decide) ?_; intro ao' cap' y' hown'; rw [Nat.zero_add, List.nil_append] at hown'; have s17 := cell_ex ⟨y', rfl⟩ r17; have t17 : (plus w3 y').frozen? ⟨b + 2, 17, none⟩ = false := frozen_blk (blk_ex ⟨y', rfl⟩ k4)))
  refine name_w (fun w' => (∃ y, w' = plus w y) ∧ w'.heap[b + 2]? = some (.cells (fN (farAs h ao' h.n cap')).toArray 56) ∧ w'.heap[b + 1]? = some (.cells z.toArray 56) ∧ Own 3 1 fI w w' ao' h.n cap' n.far) ⟨ex_plus (ex_set_new (ex_trans x1 x3) (by omega)), blk_ex ⟨y', rfl⟩ (by have := blk_set (i := 17) (u := .slice ao' h.n cap') k4; rw [← hcs, far_set2] at this; exact this), blk_ex ⟨y', rfl⟩ (blk_set_far (blk_ex x3 k2) (by omega)), (hown'.swap (T' := w3.setCell ⟨b + 2, 17, none⟩ (.slice ao' h.n cap')) (size_set _ _ _ _)).base (by rw [size_set]; omega)⟩ ?_
  rintro w4 ⟨x4, k5, k6, o5⟩
  clear hown' r17 r1 q17 p17 hl3
  go_wp2_with (first | (refine wpList_load_row rfl 56 _ rfl (b + 2) rfl _ _ _ _ k5 Tryz.underlying56 rfl (by kernel_rfl) ?_) | (refine wpList_store_box rfl 56 _ _ rfl (b + 1) (fN (farAs h ao' h.n cap')) rfl rfl _ _ k6 (by kernel_rfl) (by rw [fN_c]; simpa using hz) (fN_1 _) ?_))
  exact bodyPost_ret (v := vN (farAs h ao' h.n cap')) (results_cell_row Tryz.results36 _ _ (b + 1) 56 _ _ _ rfl (blk_row_eq k6) Tryz.underlying56 rfl (by kernel_rfl)) rfl ⟨_, rfl, ex_row_new x4 (by omega), ⟨hN.f, hN.b, o5.row_other k6 (by decide)⟩⟩

end

section


open Go.RowKit Go.ChangeShapes Go.WideShapes Go.ChangeAt

set_option linter.unusedSimpArgs false

set_option linter.unusedVariables false

attribute [local go_sem] plus_size plus_drew dn_set dn_alloc dn_plus plus_dn cell_plus frozen_plus set_plus cell_alloc frozen_alloc set_alloc

attribute [local go_sem] eqarr_40 nearr_40 larr_40

attribute [local go_sem] eqarr_137 nearr_137 larr_137

attribute [local go_sem] isnil_47

attribute [local go_sem] isnil_57

attribute [local go_sem] isnil_58

attribute [local go_sem] isnil_59

def rtS (i : Nat) : List Nat := match i with | 0 => [32] | 1 => [33] | 2 => [34] | 3 => [35] | 4 => [36] | 5 => [37] | 6 => [38] | 7 => [39] | 8 => [40] | 9 => [41] | _ => []

def rtΦ (T : World) (b q gm off k pn pc n1 cap1 : Nat) (ao1 : Option Addr) (ix : List Int) (i : Nat) (t : Nat → Value) (w' : World) : Prop := match i with
  | 0 => t 32 = .pointer (some ⟨q, 1, none⟩)
  | 1 => t 33 = .slice none 0 0
  | 2 => t 34 = .pointer (some ⟨b, 2, none⟩)
  | 3 => t 35 = .slice (some ⟨gm, off, none⟩) pn pc
  | 4 => t 36 = .int .i64 k
  | 5 => t 37 = .pointer (some ⟨gm, off + k * 2, none⟩)
  | 6 => t 38 = .pointer (some ⟨gm, off + k * 2 + 1, none⟩)
  | 7 => t 39 = .slice ao1 n1 cap1
  | 8 => ∃ a c, t 40 = .slice a n1 c ∧ Own 3 1 fI T w' a n1 c ix
  | 9 => t 41 = .pointer (some ⟨q, 1, none⟩)
  | _ => True

theorem rtΦ_mono (T : World) (b q gm off k pn pc n1 cap1 : Nat) (ao1 : Option Addr) (ix : List Int) : ∀ i t t' w' x, rtΦ T b q gm off k pn pc n1 cap1 ao1 ix i t w' → (∀ s ∈ rtS i, t' s = t s) → rtΦ T b q gm off k pn pc n1 cap1 ao1 ix i t' (plus w' x) := by
  intro i t t' w' x h hs'
  match i with
  | 0 => exact (hs' 32 (by decide)).trans h
  | 1 => exact (hs' 33 (by decide)).trans h
  | 2 => exact (hs' 34 (by decide)).trans h
  | 3 => exact (hs' 35 (by decide)).trans h
  | 4 => exact (hs' 36 (by decide)).trans h
  | 5 => exact (hs' 37 (by decide)).trans h
  | 6 => exact (hs' 38 (by decide)).trans h
  | 7 => exact (hs' 39 (by decide)).trans h
  | 8 => obtain ⟨a, c, h1, h2⟩ := h; exact ⟨a, c, (hs' 40 (by decide)).trans h1, h2.plus x⟩
  | 9 => exact (hs' 41 (by decide)).trans h
  | i + 10 => trivial

set_option maxRecDepth 100000 in
set_option maxHeartbeats 4000000 in
theorem rtwin_calls (va ua pa : Option Addr) (vn vc un uc pn pc : Nat) (hs : List PH) (m : Ms) (w : World) (hm : MeshAt w ⟨va, vn, vc, ua, un, uc, pa, pn, pc⟩ hs m) (hf : FewM hs) (s1 : vn ≤ 1000) (s2 : un ≤ 1000) (s3 : pn ≤ 100) :
    Calls Tryz.prog 37 #[.agg #[.slice va vn vc, .slice ua un uc, .slice pa pn pc]] w fun e w' => ∃ h phs, e = .returned (fM h) ∧ (∃ y, w' = plus w y) ∧ TwinAt w w' h phs m ∧ h.vn = vn ∧ h.un = un ∧ h.pn = pn := by
  have hpp : PrimsAt w hs m.ps := hm.pp
  have lp := hm.pl.len
  have lq := hpp.len
  simp only at lp
  have hvl : Lay fV w va vn m.vs := hm.vl
  have hul : Lay f2 w ua un m.uv := hm.ul
  have hpl : Lay fP w pa pn hs := hm.pl
  go_enter Tryz.func37, Tryz.ntmps37
  go_wp2_with (first | (at_builtin; refine wpList_append_lay (T := (((w.alloc (.cells #[.slice va vn vc, .slice ua un uc, .slice pa pn pc] 61)).alloc (.cells #[.slice none 0 0, .slice none 0 0, .slice none 0 0] 61)).alloc (.cells #[.slice none 0 0, .slice none 0 0, .slice none 0 0] 61))) (l := []) rfl _ _ rfl kinV fV_c fV_1 rfl (by with_reducible repeat (first | exact ex_refl _ | exact ex_moreM | apply ex_alloc | apply ex_plus | apply ex_drew | apply ex_drewN)) own_nil rfl (hvl.ex (by with_reducible repeat (first | exact ex_refl _ | exact ex_moreM | apply ex_alloc | apply ex_plus | apply ex_drew | apply ex_drewN))) (by omega) (by decide) ?_; intro av cv yv ov; rw [Nat.zero_add, List.nil_append] at ov; have ov1 := ov.swap (T' := (((w.alloc (.cells #[.slice va vn vc, .slice ua un uc, .slice pa pn pc] 61)).alloc (.cells #[.slice none 0 0, .slice none 0 0, .slice none 0 0] 61)).alloc (.cells #[.slice av vn cv, .slice none 0 0, .slice none 0 0] 61))) (by simp [go_sem])) | (at_builtin; refine wpList_append_lay (T := plus (((w.alloc (.cells #[.slice va vn vc, .slice ua un uc, .slice pa pn pc] 61)).alloc (.cells #[.slice none 0 0, .slice none 0 0, .slice none 0 0] 61)).alloc (.cells #[.slice av vn cv, .slice none 0 0, .slice none 0 0] 61)) yv) (l := []) rfl _ _ rfl kin2 f2_c f2_1 rfl (by with_reducible repeat (first | exact ex_refl _ | exact ex_moreM | apply ex_alloc | apply ex_plus | apply ex_drew | apply ex_drewN)) own_nil rfl (hul.ex (by with_reducible repeat (first | exact ex_refl _ | exact ex_moreM | apply ex_alloc | apply ex_plus | apply ex_drew | apply ex_drewN))) (by omega) (by decide) ?_; intro au cu yu ou; rw [Nat.zero_add, List.nil_append] at ou))
  have hx2 : ∃ y, plus (plus (((w.alloc (.cells #[.slice va vn vc, .slice ua un uc, .slice pa pn pc] 61)).alloc (.cells #[.slice none 0 0, .slice none 0 0, .slice none 0 0] 61)).alloc (.cells #[.slice av vn cv, .slice au un cu, .slice none 0 0] 61)) yv) yu = plus ((w.alloc (.cells #[.slice va vn vc, .slice ua un uc, .slice pa pn pc] 61)).alloc (.cells #[.slice none 0 0, .slice none 0 0, .slice none 0 0] 61)) y := (by with_reducible repeat (first | exact ex_refl _ | exact ex_moreM | apply ex_alloc | apply ex_plus | apply ex_drew | apply ex_drewN))
  have hb2 : (plus (plus (((w.alloc (.cells #[.slice va vn vc, .slice ua un uc, .slice pa pn pc] 61)).alloc (.cells #[.slice none 0 0, .slice none 0 0, .slice none 0 0] 61)).alloc (.cells #[.slice av vn cv, .slice au un cu, .slice none 0 0] 61)) yv) yu).heap[w.heap.size + 2]? = some (.cells #[.slice av vn cv, .slice au un cu, .slice none 0 0] 61) := blk_ex (ex_plus (ex_plus (ex_refl _))) (by rw [blk_alloc, if_pos (by simp [go_sem])])
  have ov2 := ((ov1.swap (T' := (((w.alloc (.cells #[.slice va vn vc, .slice ua un uc, .slice pa pn pc] 61)).alloc (.cells #[.slice none 0 0, .slice none 0 0, .slice none 0 0] 61)).alloc (.cells #[.slice av vn cv, .slice au un cu, .slice none 0 0] 61))) (by simp [go_sem])).plus yu).base (T' := ((w.alloc (.cells #[.slice va vn vc, .slice ua un uc, .slice pa pn pc] 61)).alloc (.cells #[.slice none 0 0, .slice none 0 0, .slice none 0 0] 61))) (by simp [go_sem])
  have ou2 := (ou.swap (T' := plus (((w.alloc (.cells #[.slice va vn vc, .slice ua un uc, .slice pa pn pc] 61)).alloc (.cells #[.slice none 0 0, .slice none 0 0, .slice none 0 0] 61)).alloc (.cells #[.slice av vn cv, .slice au un cu, .slice none 0 0] 61)) yv) (by simp [go_sem])).base (T' := ((w.alloc (.cells #[.slice va vn vc, .slice ua un uc, .slice pa pn pc] 61)).alloc (.cells #[.slice none 0 0, .slice none 0 0, .slice none 0 0] 61))) (by simp [go_sem]; omega)
  clear ov ov1 ou
  generalize plus (plus (((w.alloc (.cells #[.slice va vn vc, .slice ua un uc, .slice pa pn pc] 61)).alloc (.cells #[.slice none 0 0, .slice none 0 0, .slice none 0 0] 61)).alloc (.cells #[.slice av vn cv, .slice au un cu, .slice none 0 0] 61)) yv) yu = w2 at *
  go_loopw [4] (fun i wr => ∃ (k : Nat) (ap : Option Addr) (cp : Nat) (phs : List PH), k ≤ pn ∧ i = .int .i64 k ∧ (∃ y, wr = plus ((w.alloc (.cells #[.slice va vn vc, .slice ua un uc, .slice pa pn pc] 61)).alloc (.cells #[.slice none 0 0, .slice none 0 0, .slice none 0 0] 61)) y) ∧ wr.heap[w.heap.size + 2]? = some (.cells #[.slice av vn cv, .slice au un cu, .slice ap k cp] 61) ∧ Own 43 3 fV ((w.alloc (.cells #[.slice va vn vc, .slice ua un uc, .slice pa pn pc] 61)).alloc (.cells #[.slice none 0 0, .slice none 0 0, .slice none 0 0] 61)) wr av vn cv m.vs ∧ Own 137 2 f2 ((w.alloc (.cells #[.slice va vn vc, .slice ua un uc, .slice pa pn pc] 61)).alloc (.cells #[.slice none 0 0, .slice none 0 0, .slice none 0 0] 61)) wr au un cu m.uv ∧ Own 131 2 fP ((w.alloc (.cells #[.slice va vn vc, .slice ua un uc, .slice pa pn pc] 61)).alloc (.cells #[.slice none 0 0, .slice none 0 0, .slice none 0 0] 61)) wr ap k cp phs ∧ (∀ j, j < k → (nth dPH phs j).kind = (nth dPr m.ps j).kind) ∧ (∀ j, j < k → Own 3 1 fI ((w.alloc (.cells #[.slice va vn vc, .slice ua un uc, .slice pa pn pc] 61)).alloc (.cells #[.slice none 0 0, .slice none 0 0, .slice none 0 0] 61)) wr (nth dPH phs j).ao (nth dPH phs j).n (nth dPH phs j).cap (nth dPr m.ps j).ix)) (fun i _ => pn - (intOf i).toNat)
  case atStart => exact ⟨0, none, 0, [], Nat.zero_le _, rfl, hx2, hb2, ov2, ou2, own_nil, fun j hj => by omega, fun j hj => by omega⟩
  case round =>
    clear hx2 hb2 ov2 ou2
    obtain ⟨k, ap, cp, phs, hk, rfl, hx2, hb2, ov2, ou2, op2, hkn, hix⟩ := hrel
    have q2 : wr.cell? ⟨w.heap.size, 2, none⟩ = some (.slice pa pn pc) := cell_ex hx2 (by simp [go_sem, ↓IntWalk.iteOmega])
    have hq2 := cell_lt q2
    have hob := blk_lt hb2
    by_cases hkl : k < pn
    · have hplw := hpl.ex (w' := wr) (by with_reducible repeat (first | exact ex_refl _ | exact ex_moreM | apply ex_alloc | apply ex_plus | apply ex_drew | apply ex_drewN | (apply ex_on; assumption)))
      obtain ⟨gm, off, rfl, hgm, hcell⟩ := hplw.some (by omega)
      obtain ⟨d0, d1⟩ := cellP hplw.len hcell (k := k) hkl
      have hp := hpp.one k (by omega)
      have hfk := hf k (by omega)
      generalize hpe : nth dPr m.ps k = p at *
      generalize hhe : nth dPH hs k = hh at *
      obtain ⟨kind, ao1, n1, cap1⟩ := hh
      obtain ⟨kind2, ix⟩ := p
      obtain ⟨hk1, hk2, hk3, hk4, hk5, hk6⟩ := hp
      simp only at d0 d1 hk1 hk2 hk3 hk4 hk5 hk6 hfk
      subst hk1
      have hk6w := hk6.ex (w' := wr) (by with_reducible repeat (first | exact ex_refl _ | exact ex_moreM | apply ex_alloc | apply ex_plus | apply ex_drew | apply ex_drewN | (apply ex_on; assumption)))
      have ik : (k : Int) < (pn : Int) := by omega
      go_wp2
      refine region_rel 10 rtS (rtΦ ((w.alloc (.cells #[.slice va vn vc, .slice ua un uc, .slice (some ⟨gm, off, none⟩) pn pc] 61)).alloc (.cells #[.slice none 0 0, .slice none 0 0, .slice none 0 0] 61)) w.heap.size wr.heap.size gm off k pn pc n1 cap1 ao1 ix) (by kernel_rfl) (by kernel_rfl) rfl (rtΦ_mono ((w.alloc (.cells #[.slice va vn vc, .slice ua un uc, .slice (some ⟨gm, off, none⟩) pn pc] 61)).alloc (.cells #[.slice none 0 0, .slice none 0 0, .slice none 0 0] 61)) w.heap.size wr.heap.size gm off k pn pc n1 cap1 ao1 ix) ?steps ?fin
      case steps =>
        refine ⟨?_, ?_, ?_, ?_, ?_, ?_, ?_, ?_, ?_, ?_, trivial⟩
        · intro a w' hg hfree hdeep
          obtain ⟨x, rfl⟩ := hg
          have f5 := hfree 5 (by kernel_rfl)
          simp only [rtΦ, got] at f5
          simp [go_sem] at f5
          unfold Oper.wp
          simp [go_sem, execOp, Act.eval, ↓IntWalk.iteOmega, f5]
          exact ⟨_, rfl, ex_refl _, by simp [rtΦ, upd]⟩
        · intro a w' hg hfree hdeep
          obtain ⟨x, rfl⟩ := hg
          have d32 := hdeep 0 (by kernel_rfl)
          simp only [rtΦ, got] at d32
          skip
          unfold Oper.wp
          simp [go_sem, execOp, Act.eval, ↓IntWalk.iteOmega, d32]
          exact ⟨_, rfl, ex_refl _, by simp [rtΦ, upd]⟩
        · intro a w' hg hfree hdeep
          obtain ⟨x, rfl⟩ := hg
          have f1 := hfree 1 (by kernel_rfl)
          simp only [rtΦ, got] at f1
          simp [go_sem] at f1
          unfold Oper.wp
          simp [go_sem, execOp, Act.eval, ↓IntWalk.iteOmega, f1]
          exact ⟨_, rfl, ex_refl _, by simp [rtΦ, upd]⟩
        · intro a w' hg hfree hdeep
          obtain ⟨x, rfl⟩ := hg
          have d34 := hdeep 2 (by kernel_rfl)
          simp only [rtΦ, got] at d34
          skip
          unfold Oper.wp
          simp [go_sem, execOp, Act.eval, ↓IntWalk.iteOmega, d34, q2]
          exact ⟨_, rfl, ex_refl _, by simp [rtΦ, upd]⟩
        · intro a w' hg hfree hdeep
          obtain ⟨x, rfl⟩ := hg
          have f4 := hfree 4 (by kernel_rfl)
          simp only [rtΦ, got] at f4
          simp [go_sem] at f4
          unfold Oper.wp
          simp [go_sem, execOp, Act.eval, ↓IntWalk.iteOmega, f4]
          exact ⟨_, rfl, ex_refl _, by simp [rtΦ, upd]⟩
        · intro a w' hg hfree hdeep
          obtain ⟨x, rfl⟩ := hg
          have d35 := hdeep 3 (by kernel_rfl)
          have d36 := hdeep 4 (by kernel_rfl)
          simp only [rtΦ, got] at d35 d36
          skip
          unfold Oper.wp
          simp [go_sem, execOp, Act.eval, ↓IntWalk.iteOmega, d35, d36]
          exact ⟨_, rfl, ex_refl _, by simp [rtΦ, upd]⟩
        · intro a w' hg hfree hdeep
          obtain ⟨x, rfl⟩ := hg
          have d37 := hdeep 5 (by kernel_rfl)
          simp only [rtΦ, got] at d37
          skip
          unfold Oper.wp
          simp [go_sem, execOp, Act.eval, ↓IntWalk.iteOmega, d37]
          exact ⟨_, rfl, ex_refl _, by simp [rtΦ, upd]⟩
        · intro a w' hg hfree hdeep
          obtain ⟨x, rfl⟩ := hg
          have d38 := hdeep 6 (by kernel_rfl)
          simp only [rtΦ, got] at d38
          skip
          unfold Oper.wp
          simp [go_sem, execOp, Act.eval, ↓IntWalk.iteOmega, d38, d1]
          exact ⟨_, rfl, ex_refl _, by simp [rtΦ, upd]⟩
        · intro a w' hg hfree hdeep
          obtain ⟨x, rfl⟩ := hg
          have d33 := hdeep 1 (by kernel_rfl)
          have d39 := hdeep 7 (by kernel_rfl)
          simp only [rtΦ, got] at d33 d39
          refine wp_append_lay2 (l := []) (T := plus (wr.alloc (.cells #[.int .u8 kind, .slice none 0 0] 131)) x) _ _ rfl kinI fI_c fI_1 (ao := none) (n := 0) (cap := 0) (by simpa [Act.eval] using d33) (ex_refl _) own_nil (ao2 := ao1) (m := n1) (c2 := cap1) (by simpa [Act.eval] using d39) (hk6w.ex (by with_reducible repeat (first | exact ex_refl _ | exact ex_moreM | apply ex_alloc | apply ex_plus | apply ex_drew | apply ex_drewN | (apply ex_on; assumption)))) (by omega) (by decide) ?_
          intro ao3 c3 w1 o1 hw1 _
          rw [Nat.zero_add, List.nil_append] at o1
          rw [Nat.zero_add]
          exact ⟨_, rfl, hw1, (show ∃ a_ c_, upd (got a) (some 40) (.slice ao3 n1 c3) 40 = .slice a_ n1 c_ ∧ Own 3 1 fI ((w.alloc (.cells #[.slice va vn vc, .slice ua un uc, .slice (some ⟨gm, off, none⟩) pn pc] 61)).alloc (.cells #[.slice none 0 0, .slice none 0 0, .slice none 0 0] 61)) w1 a_ n1 c_ ix from ⟨ao3, c3, by simp [upd], o1.base (by have := size_ex hx2; simp [go_sem] at this ⊢; omega)⟩)⟩
        · intro a w' hg hfree hdeep
          obtain ⟨x, rfl⟩ := hg
          have f5 := hfree 5 (by kernel_rfl)
          simp only [rtΦ, got] at f5
          simp [go_sem] at f5
          unfold Oper.wp
          simp [go_sem, execOp, Act.eval, ↓IntWalk.iteOmega, f5]
          exact ⟨_, rfl, ex_refl _, by simp [rtΦ, upd]⟩
      case fin =>
        rintro t w1 hg hΦ o ho
        have h0 := hΦ 0 (by decide)
        have h1 := hΦ 1 (by decide)
        have h2 := hΦ 2 (by decide)
        have h3 := hΦ 3 (by decide)
        have h4 := hΦ 4 (by decide)
        have h5 := hΦ 5 (by decide)
        have h6 := hΦ 6 (by decide)
        have h7 := hΦ 7 (by decide)
        have h8 := hΦ 8 (by decide)
        have h9 := hΦ 9 (by decide)
        clear hΦ
        simp only [rtΦ] at h0 h1 h2 h3 h4 h5 h6 h7 h8 h9
        obtain ⟨a9, c9, e40, o9⟩ := h8
        simp only [List.getElem?_cons_succ, List.getElem?_cons_zero, Option.some.injEq] at ho
        subst ho
        simp only [putAll, List.take_succ_cons, List.take_zero, h0, h1, h2, h3, h4, h5, h6, h7, e40, h9]
        simp only [Act.put]
        simp only [List.setIfInBounds_toArray, List.set_cons_succ, List.set_cons_zero]
        have hwr : ∃ y, w1 = plus wr y := ex_trans (ex_alloc (ex_refl _)) hg
        have hbq : w1.heap[wr.heap.size]? = some (.cells #[.int .u8 kind, .slice none 0 0] 131) := blk_ex hg (by rw [blk_alloc, if_pos rfl])
        have k1 := cell_blk (i := 1) hbq rfl
        have z1 := frozen_blk (i := 1) hbq
        unfold Oper.wp
        simp [go_sem, execOp, Act.eval, k1, z1]
        have ov3 := (ov2.ex hwr).set_other (i := 1) (u := .slice a9 n1 c9) hbq (by decide)
        have ou3 := (ou2.ex hwr).set_other (i := 1) (u := .slice a9 n1 c9) hbq (by decide)
        have op3 := op2.set_new (i := 1) (u := .slice a9 n1 c9) hwr (Nat.le_refl _)
        have b3 : (w1.setCell ⟨wr.heap.size, 1, none⟩ (.slice a9 n1 c9)).heap[w.heap.size + 2]? = _ := (blk_set_ne (by omega)).trans (blk_ex hwr hb2)
        have q3 := blk_set_eq (i := 1) (u := .slice a9 n1 c9) hbq
        simp only [List.setIfInBounds_toArray, List.set_cons_succ, List.set_cons_zero] at q3
        have hx3 := ex_set_new (i := 1) (u := .slice a9 n1 c9) (g := wr.heap.size) (ex_trans hx2 hwr) (size_ex hx2)
        have o93 := o9.set_other (i := 1) (u := .slice a9 n1 c9) hbq (by decide)
        have hix3 := fun j hj => ((hix j hj).ex hwr).set_other (i := 1) (u := .slice a9 n1 c9) hbq (by decide)
        have lph := op2.1
        have hsz3 := size_set w1 wr.heap.size 1 (.slice a9 n1 c9)
        have hszw := size_ex hwr
        generalize w1.setCell ⟨wr.heap.size, 1, none⟩ (.slice a9 n1 c9) = w3 at *
        clear ov2 ou2 op2 hix hb2 hbq k1 z1 h0 h1 h2 h3 h4 h5 h6 h7 h9 e40 o9 hwr hg hplw hcell q2
        have p0 := cell_blk (i := 0) q3 rfl
        have p1 := cell_blk (i := 1) q3 rfl
        have r2 := cell_blk (i := 2) b3 rfl
        have hq3 := blk_lt q3
        have hb3 := blk_lt b3
        go_wp2_with (at_builtin; refine wpList_append_lay2 (T := ((w.alloc (.cells #[.slice va vn vc, .slice ua un uc, .slice (some ⟨gm, off, none⟩) pn pc] 61)).alloc (.cells #[.slice none 0 0, .slice none 0 0, .slice none 0 0] 61))) rfl _ _ rfl kinP fP_c fP_1 rfl (ex_alloc hx3) (op3.ex (by with_reducible repeat (first | exact ex_refl _ | exact ex_moreM | apply ex_alloc | apply ex_plus | apply ex_drew | apply ex_drewN))) rfl (l2 := [⟨kind, a9, n1, c9⟩]) ⟨rfl, .inr ⟨_, 0, rfl, by (simp [go_sem]; try omega), fun jj u hu => by match jj, hu with | 0, hu => (simp [fP] at hu; subst hu; simp [go_sem, ↓IntWalk.iteOmega]) | 1, hu => (simp [fP] at hu; subst hu; simp [go_sem, ↓IntWalk.iteOmega]) | jj + 2, hu => simp [fP] at hu⟩⟩ (by omega) (by decide) ?_; intro ap' cp' w4 op4 hx4 hgr4; have b4 := grown_blk hgr4 (op3.ex (by with_reducible repeat (first | exact ex_refl _ | exact ex_moreM | apply ex_alloc | apply ex_plus | apply ex_drew | apply ex_drewN))) (blk_ex (ex_alloc (ex_refl _)) b3) (by decide); have ov4 := grown_own hgr4 (op3.ex (by with_reducible repeat (first | exact ex_refl _ | exact ex_moreM | apply ex_alloc | apply ex_plus | apply ex_drew | apply ex_drewN))) (ov3.ex (by with_reducible repeat (first | exact ex_refl _ | exact ex_moreM | apply ex_alloc | apply ex_plus | apply ex_drew | apply ex_drewN))) (by decide); have ou4 := grown_own hgr4 (op3.ex (by with_reducible repeat (first | exact ex_refl _ | exact ex_moreM | apply ex_alloc | apply ex_plus | apply ex_drew | apply ex_drewN))) (ou3.ex (by with_reducible repeat (first | exact ex_refl _ | exact ex_moreM | apply ex_alloc | apply ex_plus | apply ex_drew | apply ex_drewN))) (by decide); have o94 := grown_own hgr4 (op3.ex (by with_reducible repeat (first | exact ex_refl _ | exact ex_moreM | apply ex_alloc | apply ex_plus | apply ex_drew | apply ex_drewN))) (o93.ex (by with_reducible repeat (first | exact ex_refl _ | exact ex_moreM | apply ex_alloc | apply ex_plus | apply ex_drew | apply ex_drewN))) (by decide); have hix4 := (fun j hj => grown_own hgr4 (op3.ex (by with_reducible repeat (first | exact ex_refl _ | exact ex_moreM | apply ex_alloc | apply ex_plus | apply ex_drew | apply ex_drewN))) ((hix3 j hj).ex (by with_reducible repeat (first | exact ex_refl _ | exact ex_moreM | apply ex_alloc | apply ex_plus | apply ex_drew | apply ex_drewN))) (by decide)); have y2 := cell_blk (i := 2) b4 rfl; have zz2 := frozen_blk (i := 2) b4; have hb4 := blk_lt b4)
        have ov5 := ov4.set_other (i := 2) (u := .slice ap' (k + 1) cp') b4 (by decide)
        have ou5 := ou4.set_other (i := 2) (u := .slice ap' (k + 1) cp') b4 (by decide)
        have op5 := op4.set_other (i := 2) (u := .slice ap' (k + 1) cp') b4 (by decide)
        have o95 := o94.set_other (i := 2) (u := .slice ap' (k + 1) cp') b4 (by decide)
        have hix5 := fun j hj => (hix4 j hj).set_other (i := 2) (u := .slice ap' (k + 1) cp') b4 (by decide)
        have b5 := blk_set_eq (i := 2) (u := .slice ap' (k + 1) cp') b4
        simp only [List.setIfInBounds_toArray, List.set_cons_succ, List.set_cons_zero] at b5
        have hx5 := ex_set_new (i := 2) (u := .slice ap' (k + 1) cp') (g := w.heap.size + 2) hx4 (by simp [go_sem])
        go_roundw
        case rel =>
          refine ⟨k + 1, ap', cp', phs ++ [⟨kind, a9, n1, c9⟩], by omega, by go_num, hx5, b5, ov5, ou5, op5, fun j hj => ?_, fun j hj => ?_⟩
          · by_cases ej : j = k
            · subst ej
              rw [nth_append_right (by omega), lph, Nat.sub_self, hpe]
              rfl
            · rw [nth_append_left (by omega)]
              exact hkn j (by omega)
          · by_cases ej : j = k
            · subst ej
              rw [nth_append_right (by omega), lph, Nat.sub_self, hpe]
              exact o95
            · rw [nth_append_left (by omega)]
              exact hix5 j (by omega)
        case measure => simp [intOf]; omega
    · have ik : ¬ (k : Int) < (pn : Int) := by omega
      obtain rfl : k = pn := by omega
      have hres : wr.heap[w.heap.size + 1]? = some (.cells #[.slice none 0 0, .slice none 0 0, .slice none 0 0] 61) := blk_ex hx2 (by rw [blk_alloc, if_pos (by simp [go_sem])])
      have k0 := cell_blk (i := 0) hres rfl
      have k1 := cell_blk (i := 1) hres rfl
      have k2 := cell_blk (i := 2) hres rfl
      have z0 := frozen_blk (i := 0) hres
      have z1 := frozen_blk (i := 1) hres
      have z2 := frozen_blk (i := 2) hres
      have b0 := cell_blk (i := 0) hb2 rfl
      have b1 := cell_blk (i := 1) hb2 rfl
      have b2 := cell_blk (i := 2) hb2 rfl
      go_wp2
      have hres3 := blk_set_eq (i := 2) (u := .slice ap k cp) (blk_set_eq (i := 1) (u := .slice au un cu) (blk_set_eq (i := 0) (u := .slice av vn cv) hres))
      simp only [List.setIfInBounds_toArray, List.set_cons_succ, List.set_cons_zero] at hres3
      have ov3 := ((ov2.set_other (i := 0) (u := .slice av vn cv) hres (by decide)).set_other (i := 1) (u := .slice au un cu) (blk_set_eq hres) (by decide)).set_other (i := 2) (u := .slice ap k cp) (blk_set_eq (blk_set_eq hres)) (by decide)
      have ou3 := ((ou2.set_other (i := 0) (u := .slice av vn cv) hres (by decide)).set_other (i := 1) (u := .slice au un cu) (blk_set_eq hres) (by decide)).set_other (i := 2) (u := .slice ap k cp) (blk_set_eq (blk_set_eq hres)) (by decide)
      have op3 := ((op2.set_other (i := 0) (u := .slice av vn cv) hres (by decide)).set_other (i := 1) (u := .slice au un cu) (blk_set_eq hres) (by decide)).set_other (i := 2) (u := .slice ap k cp) (blk_set_eq (blk_set_eq hres)) (by decide)
      have hix3 := fun j hj => (((hix j hj).set_other (i := 0) (u := .slice av vn cv) hres (by decide)).set_other (i := 1) (u := .slice au un cu) (blk_set_eq hres) (by decide)).set_other (i := 2) (u := .slice ap k cp) (blk_set_eq (blk_set_eq hres)) (by decide)
      have hwr : ∃ y, wr = plus w y := (by with_reducible repeat (first | exact ex_refl _ | exact ex_moreM | apply ex_alloc | apply ex_plus | apply ex_drew | apply ex_drewN | (apply ex_on; assumption)))
      have hx3 := ex_set_new (i := 2) (u := .slice ap k cp) (g := w.heap.size + 1) (ex_set_new (i := 1) (u := .slice au un cu) (g := w.heap.size + 1) (ex_set_new (i := 0) (u := .slice av vn cv) (g := w.heap.size + 1) hwr (by omega)) (by omega)) (by omega)
      have lph := op2.1
      clear ov2 ou2 op2 hix hres k0 k1 k2 z0 z1 z2 b0 b1 b2 hb2 hx2 hwr
      generalize ((wr.setCell ⟨w.heap.size + 1, 0, none⟩ (.slice av vn cv)).setCell ⟨w.heap.size + 1, 1, none⟩ (.slice au un cu)).setCell ⟨w.heap.size + 1, 2, none⟩ (.slice ap k cp) = w3 at *
      have c0 := cell_blk (i := 0) hres3 rfl
      have c1 := cell_blk (i := 1) hres3 rfl
      have c2 := cell_blk (i := 2) hres3 rfl
      have hbs : w.heap.size ≤ ((w.alloc (.cells #[.slice va vn vc, .slice ua un uc, .slice pa k pc] 61)).alloc (.cells #[.slice none 0 0, .slice none 0 0, .slice none 0 0] 61)).heap.size := by simp [go_sem]; omega
      exact bodyPost_ret (v := .agg #[.slice av vn cv, .slice au un cu, .slice ap k cp]) (by simp [results, Tryz.results37, go_sem, c0, c1, c2]) rfl
        ⟨⟨av, vn, cv, au, un, cu, ap, k, cp⟩, rfl, hx3, ⟨phs, ov3.base hbs, ou3.base hbs, op3.base hbs, by omega, fun j hj => hkn j (by omega), fun j hj => (hix3 j (by omega)).base hbs⟩, rfl, rfl, rfl⟩

end

end Go.Proofs.YtcekcihijdipoaaGreat
