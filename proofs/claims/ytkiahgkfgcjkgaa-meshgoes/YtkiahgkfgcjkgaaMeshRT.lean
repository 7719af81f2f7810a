/- What dioramaref04.Twin gives. -/
import Derived.Test.YtkiahgkfgcjkgaaMeshTw
import Derived.Test.YtkiahgkfgcjkgaaLay2
namespace Go.Proofs.Ytkiahgkfgcjkgaa
open Go.RowKit Go.ChangeShapes Go.WideShapes Go.ChangeAt
set_option linter.unusedSimpArgs false
set_option linter.unusedVariables false
attribute [local go_sem] plus_size plus_drew dn_set dn_alloc dn_plus plus_dn cell_plus frozen_plus set_plus cell_alloc frozen_alloc set_alloc

attribute [local go_sem] eqarr_34 nearr_34 larr_34

attribute [local go_sem] eqarr_50 nearr_50 larr_50

attribute [local go_sem] isnil_26

attribute [local go_sem] isnil_29

attribute [local go_sem] isnil_30

attribute [local go_sem] isnil_31

def rtS (i : Nat) : List Nat := match i with | 0 => [32] | 1 => [33] | 2 => [34] | 3 => [35] | 4 => [36] | 5 => [37] | 6 => [38] | 7 => [39] | 8 => [40] | 9 => [41] | _ => []
def rtΦ (T : World) (b q gm off k pn pc n1 cap1 : Nat) (ao1 : Option Addr) (ix : List Int) (i : Nat) (t : Nat → Value) (w' : World) : Prop := match i with
  | 0 => t 32 = .pointer (some ⟨q, 1, none⟩)
  | 1 => t 33 = .slice none 0 0
  | 2 => t 34 = .pointer (some ⟨b, 2, none⟩)
  | 3 => t 35 = .slice (some ⟨gm, off, none⟩) pn pc
  | 4 => t 36 = .int .i64 k
  | 5 => t 37 = .pointer (some ⟨gm, off + k * 2, none⟩)
  | 6 => t 38 = .pointer (some ⟨gm, off + k * 2 + 1, none⟩)
  | 7 => t 39 = .slice ao1 n1 cap1
  | 8 => ∃ a c, t 40 = .slice a n1 c ∧ Own 3 1 fI T w' a n1 c ix
  | 9 => t 41 = .pointer (some ⟨q, 1, none⟩)
  | _ => True
theorem rtΦ_mono (T : World) (b q gm off k pn pc n1 cap1 : Nat) (ao1 : Option Addr) (ix : List Int) : ∀ i t t' w' x, rtΦ T b q gm off k pn pc n1 cap1 ao1 ix i t w' → (∀ s ∈ rtS i, t' s = t s) → rtΦ T b q gm off k pn pc n1 cap1 ao1 ix i t' (plus w' x) := by
  intro i t t' w' x h hs'
  match i with
  | 0 => exact (hs' 32 (by decide)).trans h
  | 1 => exact (hs' 33 (by decide)).trans h
  | 2 => exact (hs' 34 (by decide)).trans h
  | 3 => exact (hs' 35 (by decide)).trans h
  | 4 => exact (hs' 36 (by decide)).trans h
  | 5 => exact (hs' 37 (by decide)).trans h
  | 6 => exact (hs' 38 (by decide)).trans h
  | 7 => exact (hs' 39 (by decide)).trans h
  | 8 => obtain ⟨a, c, h1, h2⟩ := h; exact ⟨a, c, (hs' 40 (by decide)).trans h1, h2.plus x⟩
  | 9 => exact (hs' 41 (by decide)).trans h
  | i + 10 => trivial

set_option maxRecDepth 100000 in
set_option maxHeartbeats 4000000 in
theorem rtwin_calls (va ua pa : Option Addr) (vn vc un uc pn pc : Nat) (hs : List PH) (m : Ms) (w : World) (hm : MeshAt w ⟨va, vn, vc, ua, un, uc, pa, pn, pc⟩ hs m) (hf : Few hs) (s1 : vn ≤ 1000) (s2 : un ≤ 1000) (s3 : pn ≤ 100) :
    Calls Try.prog 16 #[.agg #[.slice va vn vc, .slice ua un uc, .slice pa pn pc]] w fun e w' => ∃ h phs, e = .returned (fM h) ∧ (∃ y, w' = plus w y) ∧ TwinAt w w' h phs m ∧ h.vn = vn ∧ h.un = un ∧ h.pn = pn := by
  have hpp : PrimsAt w hs m.ps := hm.pp
  have lp := hm.pl.len
  have lq := hpp.len
  simp only at lp
  have hvl : Lay fV w va vn m.vs := hm.vl
  have hul : Lay f2 w ua un m.uv := hm.ul
  have hpl : Lay fP w pa pn hs := hm.pl
  go_enter Try.func16, Try.ntmps16
  go_wp2_with (first | (at_builtin; refine wpList_append_lay (T := (((w.alloc (.cells #[.slice va vn vc, .slice ua un uc, .slice pa pn pc] 33)).alloc (.cells #[.slice none 0 0, .slice none 0 0, .slice none 0 0] 33)).alloc (.cells #[.slice none 0 0, .slice none 0 0, .slice none 0 0] 33))) (l := []) rfl _ _ rfl kinV fV_c fV_1 rfl (by with_reducible repeat (first | exact ex_refl _ | exact ex_more | apply ex_alloc | apply ex_plus | apply ex_drew | apply ex_drewN)) own_nil rfl (hvl.ex (by with_reducible repeat (first | exact ex_refl _ | exact ex_more | apply ex_alloc | apply ex_plus | apply ex_drew | apply ex_drewN))) (by omega) (by decide) ?_; intro av cv yv ov; rw [Nat.zero_add, List.nil_append] at ov; have ov1 := ov.swap (T' := (((w.alloc (.cells #[.slice va vn vc, .slice ua un uc, .slice pa pn pc] 33)).alloc (.cells #[.slice none 0 0, .slice none 0 0, .slice none 0 0] 33)).alloc (.cells #[.slice av vn cv, .slice none 0 0, .slice none 0 0] 33))) (by simp [go_sem])) | (at_builtin; refine wpList_append_lay (T := plus (((w.alloc (.cells #[.slice va vn vc, .slice ua un uc, .slice pa pn pc] 33)).alloc (.cells #[.slice none 0 0, .slice none 0 0, .slice none 0 0] 33)).alloc (.cells #[.slice av vn cv, .slice none 0 0, .slice none 0 0] 33)) yv) (l := []) rfl _ _ rfl kin2 f2_c f2_1 rfl (by with_reducible repeat (first | exact ex_refl _ | exact ex_more | apply ex_alloc | apply ex_plus | apply ex_drew | apply ex_drewN)) own_nil rfl (hul.ex (by with_reducible repeat (first | exact ex_refl _ | exact ex_more | apply ex_alloc | apply ex_plus | apply ex_drew | apply ex_drewN))) (by omega) (by decide) ?_; intro au cu yu ou; rw [Nat.zero_add, List.nil_append] at ou))
  have hx2 : ∃ y, plus (plus (((w.alloc (.cells #[.slice va vn vc, .slice ua un uc, .slice pa pn pc] 33)).alloc (.cells #[.slice none 0 0, .slice none 0 0, .slice none 0 0] 33)).alloc (.cells #[.slice av vn cv, .slice au un cu, .slice none 0 0] 33)) yv) yu = plus ((w.alloc (.cells #[.slice va vn vc, .slice ua un uc, .slice pa pn pc] 33)).alloc (.cells #[.slice none 0 0, .slice none 0 0, .slice none 0 0] 33)) y := (by with_reducible repeat (first | exact ex_refl _ | exact ex_more | apply ex_alloc | apply ex_plus | apply ex_drew | apply ex_drewN))
  have hb2 : (plus (plus (((w.alloc (.cells #[.slice va vn vc, .slice ua un uc, .slice pa pn pc] 33)).alloc (.cells #[.slice none 0 0, .slice none 0 0, .slice none 0 0] 33)).alloc (.cells #[.slice av vn cv, .slice au un cu, .slice none 0 0] 33)) yv) yu).heap[w.heap.size + 2]? = some (.cells #[.slice av vn cv, .slice au un cu, .slice none 0 0] 33) := blk_ex (ex_plus (ex_plus (ex_refl _))) (by rw [blk_alloc, if_pos (by simp [go_sem])])
  have ov2 := ((ov1.swap (T' := (((w.alloc (.cells #[.slice va vn vc, .slice ua un uc, .slice pa pn pc] 33)).alloc (.cells #[.slice none 0 0, .slice none 0 0, .slice none 0 0] 33)).alloc (.cells #[.slice av vn cv, .slice au un cu, .slice none 0 0] 33))) (by simp [go_sem])).plus yu).base (T' := ((w.alloc (.cells #[.slice va vn vc, .slice ua un uc, .slice pa pn pc] 33)).alloc (.cells #[.slice none 0 0, .slice none 0 0, .slice none 0 0] 33))) (by simp [go_sem])
  have ou2 := (ou.swap (T' := plus (((w.alloc (.cells #[.slice va vn vc, .slice ua un uc, .slice pa pn pc] 33)).alloc (.cells #[.slice none 0 0, .slice none 0 0, .slice none 0 0] 33)).alloc (.cells #[.slice av vn cv, .slice au un cu, .slice none 0 0] 33)) yv) (by simp [go_sem])).base (T' := ((w.alloc (.cells #[.slice va vn vc, .slice ua un uc, .slice pa pn pc] 33)).alloc (.cells #[.slice none 0 0, .slice none 0 0, .slice none 0 0] 33))) (by simp [go_sem]; omega)
  clear ov ov1 ou
  generalize plus (plus (((w.alloc (.cells #[.slice va vn vc, .slice ua un uc, .slice pa pn pc] 33)).alloc (.cells #[.slice none 0 0, .slice none 0 0, .slice none 0 0] 33)).alloc (.cells #[.slice av vn cv, .slice au un cu, .slice none 0 0] 33)) yv) yu = w2 at *
  go_loopw [4] (fun i wr => ∃ (k : Nat) (ap : Option Addr) (cp : Nat) (phs : List PH), k ≤ pn ∧ i = .int .i64 k ∧ (∃ y, wr = plus ((w.alloc (.cells #[.slice va vn vc, .slice ua un uc, .slice pa pn pc] 33)).alloc (.cells #[.slice none 0 0, .slice none 0 0, .slice none 0 0] 33)) y) ∧ wr.heap[w.heap.size + 2]? = some (.cells #[.slice av vn cv, .slice au un cu, .slice ap k cp] 33) ∧ Own 49 3 fV ((w.alloc (.cells #[.slice va vn vc, .slice ua un uc, .slice pa pn pc] 33)).alloc (.cells #[.slice none 0 0, .slice none 0 0, .slice none 0 0] 33)) wr av vn cv m.vs ∧ Own 50 2 f2 ((w.alloc (.cells #[.slice va vn vc, .slice ua un uc, .slice pa pn pc] 33)).alloc (.cells #[.slice none 0 0, .slice none 0 0, .slice none 0 0] 33)) wr au un cu m.uv ∧ Own 28 2 fP ((w.alloc (.cells #[.slice va vn vc, .slice ua un uc, .slice pa pn pc] 33)).alloc (.cells #[.slice none 0 0, .slice none 0 0, .slice none 0 0] 33)) wr ap k cp phs ∧ (∀ j, j < k → (nth dPH phs j).kind = (nth dPr m.ps j).kind) ∧ (∀ j, j < k → Own 3 1 fI ((w.alloc (.cells #[.slice va vn vc, .slice ua un uc, .slice pa pn pc] 33)).alloc (.cells #[.slice none 0 0, .slice none 0 0, .slice none 0 0] 33)) wr (nth dPH phs j).ao (nth dPH phs j).n (nth dPH phs j).cap (nth dPr m.ps j).ix)) (fun i _ => pn - (intOf i).toNat)
  case atStart => exact ⟨0, none, 0, [], Nat.zero_le _, rfl, hx2, hb2, ov2, ou2, own_nil, fun j hj => by omega, fun j hj => by omega⟩
  case round =>
    clear hx2 hb2 ov2 ou2
    obtain ⟨k, ap, cp, phs, hk, rfl, hx2, hb2, ov2, ou2, op2, hkn, hix⟩ := hrel
    have q2 : wr.cell? ⟨w.heap.size, 2, none⟩ = some (.slice pa pn pc) := cell_ex hx2 (by simp [go_sem, ↓IntWalk.iteOmega])
    have hq2 := cell_lt q2
    have hob := blk_lt hb2
    by_cases hkl : k < pn
    · have hplw := hpl.ex (w' := wr) (by with_reducible repeat (first | exact ex_refl _ | exact ex_more | apply ex_alloc | apply ex_plus | apply ex_drew | apply ex_drewN | (apply ex_on; assumption)))
      obtain ⟨gm, off, rfl, hgm, hcell⟩ := hplw.some (by omega)
      obtain ⟨d0, d1⟩ := cellP hplw.len hcell (k := k) hkl
      have hp := hpp.one k (by omega)
      have hfk := hf k (by omega)
      generalize hpe : nth dPr m.ps k = p at *
      generalize hhe : nth dPH hs k = hh at *
      obtain ⟨kind, ao1, n1, cap1⟩ := hh
      obtain ⟨kind2, ix⟩ := p
      obtain ⟨hk1, hk2, hk3, hk4, hk5, hk6⟩ := hp
      simp only at d0 d1 hk1 hk2 hk3 hk4 hk5 hk6 hfk
      subst hk1
      have hk6w := hk6.ex (w' := wr) (by with_reducible repeat (first | exact ex_refl _ | exact ex_more | apply ex_alloc | apply ex_plus | apply ex_drew | apply ex_drewN | (apply ex_on; assumption)))
      have ik : (k : Int) < (pn : Int) := by omega
      go_wp2
      refine region_rel 10 rtS (rtΦ ((w.alloc (.cells #[.slice va vn vc, .slice ua un uc, .slice (some ⟨gm, off, none⟩) pn pc] 33)).alloc (.cells #[.slice none 0 0, .slice none 0 0, .slice none 0 0] 33)) w.heap.size wr.heap.size gm off k pn pc n1 cap1 ao1 ix) (by kernel_rfl) (by kernel_rfl) rfl (rtΦ_mono ((w.alloc (.cells #[.slice va vn vc, .slice ua un uc, .slice (some ⟨gm, off, none⟩) pn pc] 33)).alloc (.cells #[.slice none 0 0, .slice none 0 0, .slice none 0 0] 33)) w.heap.size wr.heap.size gm off k pn pc n1 cap1 ao1 ix) ?steps ?fin
      case steps =>
        refine ⟨?_, ?_, ?_, ?_, ?_, ?_, ?_, ?_, ?_, ?_, trivial⟩
        · intro a w' hg hfree hdeep
          obtain ⟨x, rfl⟩ := hg
          have f5 := hfree 5 (by kernel_rfl)
          simp only [rtΦ, got] at f5
          simp [go_sem] at f5
          unfold Oper.wp
          simp [go_sem, execOp, Act.eval, ↓IntWalk.iteOmega, f5]
          exact ⟨_, rfl, ex_refl _, by simp [rtΦ, upd]⟩
        · intro a w' hg hfree hdeep
          obtain ⟨x, rfl⟩ := hg
          have d32 := hdeep 0 (by kernel_rfl)
          simp only [rtΦ, got] at d32
          skip
          unfold Oper.wp
          simp [go_sem, execOp, Act.eval, ↓IntWalk.iteOmega, d32]
          exact ⟨_, rfl, ex_refl _, by simp [rtΦ, upd]⟩
        · intro a w' hg hfree hdeep
          obtain ⟨x, rfl⟩ := hg
          have f1 := hfree 1 (by kernel_rfl)
          simp only [rtΦ, got] at f1
          simp [go_sem] at f1
          unfold Oper.wp
          simp [go_sem, execOp, Act.eval, ↓IntWalk.iteOmega, f1]
          exact ⟨_, rfl, ex_refl _, by simp [rtΦ, upd]⟩
        · intro a w' hg hfree hdeep
          obtain ⟨x, rfl⟩ := hg
          have d34 := hdeep 2 (by kernel_rfl)
          simp only [rtΦ, got] at d34
          skip
          unfold Oper.wp
          simp [go_sem, execOp, Act.eval, ↓IntWalk.iteOmega, d34, q2]
          exact ⟨_, rfl, ex_refl _, by simp [rtΦ, upd]⟩
        · intro a w' hg hfree hdeep
          obtain ⟨x, rfl⟩ := hg
          have f4 := hfree 4 (by kernel_rfl)
          simp only [rtΦ, got] at f4
          simp [go_sem] at f4
          unfold Oper.wp
          simp [go_sem, execOp, Act.eval, ↓IntWalk.iteOmega, f4]
          exact ⟨_, rfl, ex_refl _, by simp [rtΦ, upd]⟩
        · intro a w' hg hfree hdeep
          obtain ⟨x, rfl⟩ := hg
          have d35 := hdeep 3 (by kernel_rfl)
          have d36 := hdeep 4 (by kernel_rfl)
          simp only [rtΦ, got] at d35 d36
          skip
          unfold Oper.wp
          simp [go_sem, execOp, Act.eval, ↓IntWalk.iteOmega, d35, d36]
          exact ⟨_, rfl, ex_refl _, by simp [rtΦ, upd]⟩
        · intro a w' hg hfree hdeep
          obtain ⟨x, rfl⟩ := hg
          have d37 := hdeep 5 (by kernel_rfl)
          simp only [rtΦ, got] at d37
          skip
          unfold Oper.wp
          simp [go_sem, execOp, Act.eval, ↓IntWalk.iteOmega, d37]
          exact ⟨_, rfl, ex_refl _, by simp [rtΦ, upd]⟩
        · intro a w' hg hfree hdeep
          obtain ⟨x, rfl⟩ := hg
          have d38 := hdeep 6 (by kernel_rfl)
          simp only [rtΦ, got] at d38
          skip
          unfold Oper.wp
          simp [go_sem, execOp, Act.eval, ↓IntWalk.iteOmega, d38, d1]
          exact ⟨_, rfl, ex_refl _, by simp [rtΦ, upd]⟩
        · intro a w' hg hfree hdeep
          obtain ⟨x, rfl⟩ := hg
          have d33 := hdeep 1 (by kernel_rfl)
          have d39 := hdeep 7 (by kernel_rfl)
          simp only [rtΦ, got] at d33 d39
          refine wp_append_lay2 (l := []) (T := plus (wr.alloc (.cells #[.int .u8 kind, .slice none 0 0] 28)) x) _ _ rfl kinI fI_c fI_1 (ao := none) (n := 0) (cap := 0) (by simpa [Act.eval] using d33) (ex_refl _) own_nil (ao2 := ao1) (m := n1) (c2 := cap1) (by simpa [Act.eval] using d39) (hk6w.ex (by with_reducible repeat (first | exact ex_refl _ | exact ex_more | apply ex_alloc | apply ex_plus | apply ex_drew | apply ex_drewN | (apply ex_on; assumption)))) (by omega) (by decide) ?_
          intro ao3 c3 w1 o1 hw1 _
          rw [Nat.zero_add, List.nil_append] at o1
          rw [Nat.zero_add]
          exact ⟨_, rfl, hw1, (show ∃ a_ c_, upd (got a) (some 40) (.slice ao3 n1 c3) 40 = .slice a_ n1 c_ ∧ Own 3 1 fI ((w.alloc (.cells #[.slice va vn vc, .slice ua un uc, .slice (some ⟨gm, off, none⟩) pn pc] 33)).alloc (.cells #[.slice none 0 0, .slice none 0 0, .slice none 0 0] 33)) w1 a_ n1 c_ ix from ⟨ao3, c3, by simp [upd], o1.base (by have := size_ex hx2; simp [go_sem] at this ⊢; omega)⟩)⟩
        · intro a w' hg hfree hdeep
          obtain ⟨x, rfl⟩ := hg
          have f5 := hfree 5 (by kernel_rfl)
          simp only [rtΦ, got] at f5
          simp [go_sem] at f5
          unfold Oper.wp
          simp [go_sem, execOp, Act.eval, ↓IntWalk.iteOmega, f5]
          exact ⟨_, rfl, ex_refl _, by simp [rtΦ, upd]⟩
      case fin =>
        rintro t w1 hg hΦ o ho
        have h0 := hΦ 0 (by decide)
        have h1 := hΦ 1 (by decide)
        have h2 := hΦ 2 (by decide)
        have h3 := hΦ 3 (by decide)
        have h4 := hΦ 4 (by decide)
        have h5 := hΦ 5 (by decide)
        have h6 := hΦ 6 (by decide)
        have h7 := hΦ 7 (by decide)
        have h8 := hΦ 8 (by decide)
        have h9 := hΦ 9 (by decide)
        clear hΦ
        simp only [rtΦ] at h0 h1 h2 h3 h4 h5 h6 h7 h8 h9
        obtain ⟨a9, c9, e40, o9⟩ := h8
        simp only [List.getElem?_cons_succ, List.getElem?_cons_zero, Option.some.injEq] at ho
        subst ho
        simp only [putAll, List.take_succ_cons, List.take_zero, h0, h1, h2, h3, h4, h5, h6, h7, e40, h9]
        simp only [Act.put]
        simp only [List.setIfInBounds_toArray, List.set_cons_succ, List.set_cons_zero]
        have hwr : ∃ y, w1 = plus wr y := ex_trans (ex_alloc (ex_refl _)) hg
        have hbq : w1.heap[wr.heap.size]? = some (.cells #[.int .u8 kind, .slice none 0 0] 28) := blk_ex hg (by rw [blk_alloc, if_pos rfl])
        have k1 := cell_blk (i := 1) hbq rfl
        have z1 := frozen_blk (i := 1) hbq
        unfold Oper.wp
        simp [go_sem, execOp, Act.eval, k1, z1]
        have ov3 := (ov2.ex hwr).set_other (i := 1) (u := .slice a9 n1 c9) hbq (by decide)
        have ou3 := (ou2.ex hwr).set_other (i := 1) (u := .slice a9 n1 c9) hbq (by decide)
        have op3 := op2.set_new (i := 1) (u := .slice a9 n1 c9) hwr (Nat.le_refl _)
        have b3 : (w1.setCell ⟨wr.heap.size, 1, none⟩ (.slice a9 n1 c9)).heap[w.heap.size + 2]? = _ := (blk_set_ne (by omega)).trans (blk_ex hwr hb2)
        have q3 := blk_set_eq (i := 1) (u := .slice a9 n1 c9) hbq
        simp only [List.setIfInBounds_toArray, List.set_cons_succ, List.set_cons_zero] at q3
        have hx3 := ex_set_new (i := 1) (u := .slice a9 n1 c9) (g := wr.heap.size) (ex_trans hx2 hwr) (size_ex hx2)
        have o93 := o9.set_other (i := 1) (u := .slice a9 n1 c9) hbq (by decide)
        have hix3 := fun j hj => ((hix j hj).ex hwr).set_other (i := 1) (u := .slice a9 n1 c9) hbq (by decide)
        have lph := op2.1
        have hsz3 := size_set w1 wr.heap.size 1 (.slice a9 n1 c9)
        have hszw := size_ex hwr
        generalize w1.setCell ⟨wr.heap.size, 1, none⟩ (.slice a9 n1 c9) = w3 at *
        clear ov2 ou2 op2 hix hb2 hbq k1 z1 h0 h1 h2 h3 h4 h5 h6 h7 h9 e40 o9 hwr hg hplw hcell q2
        have p0 := cell_blk (i := 0) q3 rfl
        have p1 := cell_blk (i := 1) q3 rfl
        have r2 := cell_blk (i := 2) b3 rfl
        have hq3 := blk_lt q3
        have hb3 := blk_lt b3
        go_wp2_with (at_builtin; refine wpList_append_lay2 (T := ((w.alloc (.cells #[.slice va vn vc, .slice ua un uc, .slice (some ⟨gm, off, none⟩) pn pc] 33)).alloc (.cells #[.slice none 0 0, .slice none 0 0, .slice none 0 0] 33))) rfl _ _ rfl kinP fP_c fP_1 rfl (ex_alloc hx3) (op3.ex (by with_reducible repeat (first | exact ex_refl _ | exact ex_more | apply ex_alloc | apply ex_plus | apply ex_drew | apply ex_drewN))) rfl (l2 := [⟨kind, a9, n1, c9⟩]) ⟨rfl, .inr ⟨_, 0, rfl, by (simp [go_sem]; try omega), fun jj u hu => by match jj, hu with | 0, hu => (simp [fP] at hu; subst hu; simp [go_sem, ↓IntWalk.iteOmega]) | 1, hu => (simp [fP] at hu; subst hu; simp [go_sem, ↓IntWalk.iteOmega]) | jj + 2, hu => simp [fP] at hu⟩⟩ (by omega) (by decide) ?_; intro ap' cp' w4 op4 hx4 hgr4; have b4 := grown_blk hgr4 (op3.ex (by with_reducible repeat (first | exact ex_refl _ | exact ex_more | apply ex_alloc | apply ex_plus | apply ex_drew | apply ex_drewN))) (blk_ex (ex_alloc (ex_refl _)) b3) (by decide); have ov4 := grown_own hgr4 (op3.ex (by with_reducible repeat (first | exact ex_refl _ | exact ex_more | apply ex_alloc | apply ex_plus | apply ex_drew | apply ex_drewN))) (ov3.ex (by with_reducible repeat (first | exact ex_refl _ | exact ex_more | apply ex_alloc | apply ex_plus | apply ex_drew | apply ex_drewN))) (by decide); have ou4 := grown_own hgr4 (op3.ex (by with_reducible repeat (first | exact ex_refl _ | exact ex_more | apply ex_alloc | apply ex_plus | apply ex_drew | apply ex_drewN))) (ou3.ex (by with_reducible repeat (first | exact ex_refl _ | exact ex_more | apply ex_alloc | apply ex_plus | apply ex_drew | apply ex_drewN))) (by decide); have o94 := grown_own hgr4 (op3.ex (by with_reducible repeat (first | exact ex_refl _ | exact ex_more | apply ex_alloc | apply ex_plus | apply ex_drew | apply ex_drewN))) (o93.ex (by with_reducible repeat (first | exact ex_refl _ | exact ex_more | apply ex_alloc | apply ex_plus | apply ex_drew | apply ex_drewN))) (by decide); have hix4 := (fun j hj => grown_own hgr4 (op3.ex (by with_reducible repeat (first | exact ex_refl _ | exact ex_more | apply ex_alloc | apply ex_plus | apply ex_drew | apply ex_drewN))) ((hix3 j hj).ex (by with_reducible repeat (first | exact ex_refl _ | exact ex_more | apply ex_alloc | apply ex_plus | apply ex_drew | apply ex_drewN))) (by decide)); have y2 := cell_blk (i := 2) b4 rfl; have zz2 := frozen_blk (i := 2) b4; have hb4 := blk_lt b4)
        have ov5 := ov4.set_other (i := 2) (u := .slice ap' (k + 1) cp') b4 (by decide)
        have ou5 := ou4.set_other (i := 2) (u := .slice ap' (k + 1) cp') b4 (by decide)
        have op5 := op4.set_other (i := 2) (u := .slice ap' (k + 1) cp') b4 (by decide)
        have o95 := o94.set_other (i := 2) (u := .slice ap' (k + 1) cp') b4 (by decide)
        have hix5 := fun j hj => (hix4 j hj).set_other (i := 2) (u := .slice ap' (k + 1) cp') b4 (by decide)
        have b5 := blk_set_eq (i := 2) (u := .slice ap' (k + 1) cp') b4
        simp only [List.setIfInBounds_toArray, List.set_cons_succ, List.set_cons_zero] at b5
        have hx5 := ex_set_new (i := 2) (u := .slice ap' (k + 1) cp') (g := w.heap.size + 2) hx4 (by simp [go_sem])
        go_roundw
        case rel =>
          refine ⟨k + 1, ap', cp', phs ++ [⟨kind, a9, n1, c9⟩], by omega, by go_num, hx5, b5, ov5, ou5, op5, fun j hj => ?_, fun j hj => ?_⟩
          · by_cases ej : j = k
            · subst ej
              rw [nth_append_right (by omega), lph, Nat.sub_self, hpe]
              rfl
            · rw [nth_append_left (by omega)]
              exact hkn j (by omega)
          · by_cases ej : j = k
            · subst ej
              rw [nth_append_right (by omega), lph, Nat.sub_self, hpe]
              exact o95
            · rw [nth_append_left (by omega)]
              exact hix5 j (by omega)
        case measure => simp [intOf]; omega
    · have ik : ¬ (k : Int) < (pn : Int) := by omega
      obtain rfl : k = pn := by omega
      have hres : wr.heap[w.heap.size + 1]? = some (.cells #[.slice none 0 0, .slice none 0 0, .slice none 0 0] 33) := blk_ex hx2 (by rw [blk_alloc, if_pos (by simp [go_sem])])
      have k0 := cell_blk (i := 0) hres rfl
      have k1 := cell_blk (i := 1) hres rfl
      have k2 := cell_blk (i := 2) hres rfl
      have z0 := frozen_blk (i := 0) hres
      have z1 := frozen_blk (i := 1) hres
      have z2 := frozen_blk (i := 2) hres
      have b0 := cell_blk (i := 0) hb2 rfl
      have b1 := cell_blk (i := 1) hb2 rfl
      have b2 := cell_blk (i := 2) hb2 rfl
      go_wp2
      have hres3 := blk_set_eq (i := 2) (u := .slice ap k cp) (blk_set_eq (i := 1) (u := .slice au un cu) (blk_set_eq (i := 0) (u := .slice av vn cv) hres))
      simp only [List.setIfInBounds_toArray, List.set_cons_succ, List.set_cons_zero] at hres3
      have ov3 := ((ov2.set_other (i := 0) (u := .slice av vn cv) hres (by decide)).set_other (i := 1) (u := .slice au un cu) (blk_set_eq hres) (by decide)).set_other (i := 2) (u := .slice ap k cp) (blk_set_eq (blk_set_eq hres)) (by decide)
      have ou3 := ((ou2.set_other (i := 0) (u := .slice av vn cv) hres (by decide)).set_other (i := 1) (u := .slice au un cu) (blk_set_eq hres) (by decide)).set_other (i := 2) (u := .slice ap k cp) (blk_set_eq (blk_set_eq hres)) (by decide)
      have op3 := ((op2.set_other (i := 0) (u := .slice av vn cv) hres (by decide)).set_other (i := 1) (u := .slice au un cu) (blk_set_eq hres) (by decide)).set_other (i := 2) (u := .slice ap k cp) (blk_set_eq (blk_set_eq hres)) (by decide)
      have hix3 := fun j hj => (((hix j hj).set_other (i := 0) (u := .slice av vn cv) hres (by decide)).set_other (i := 1) (u := .slice au un cu) (blk_set_eq hres) (by decide)).set_other (i := 2) (u := .slice ap k cp) (blk_set_eq (blk_set_eq hres)) (by decide)
      have hwr : ∃ y, wr = plus w y := (by with_reducible repeat (first | exact ex_refl _ | exact ex_more | apply ex_alloc | apply ex_plus | apply ex_drew | apply ex_drewN | (apply ex_on; assumption)))
      have hx3 := ex_set_new (i := 2) (u := .slice ap k cp) (g := w.heap.size + 1) (ex_set_new (i := 1) (u := .slice au un cu) (g := w.heap.size + 1) (ex_set_new (i := 0) (u := .slice av vn cv) (g := w.heap.size + 1) hwr (by omega)) (by omega)) (by omega)
      have lph := op2.1
      clear ov2 ou2 op2 hix hres k0 k1 k2 z0 z1 z2 b0 b1 b2 hb2 hx2 hwr
      generalize ((wr.setCell ⟨w.heap.size + 1, 0, none⟩ (.slice av vn cv)).setCell ⟨w.heap.size + 1, 1, none⟩ (.slice au un cu)).setCell ⟨w.heap.size + 1, 2, none⟩ (.slice ap k cp) = w3 at *
      have c0 := cell_blk (i := 0) hres3 rfl
      have c1 := cell_blk (i := 1) hres3 rfl
      have c2 := cell_blk (i := 2) hres3 rfl
      have hbs : w.heap.size ≤ ((w.alloc (.cells #[.slice va vn vc, .slice ua un uc, .slice pa k pc] 33)).alloc (.cells #[.slice none 0 0, .slice none 0 0, .slice none 0 0] 33)).heap.size := by simp [go_sem]; omega
      exact bodyPost_ret (v := .agg #[.slice av vn cv, .slice au un cu, .slice ap k cp]) (by simp [results, Try.results16, go_sem, c0, c1, c2]) rfl
        ⟨⟨av, vn, cv, au, un, cu, ap, k, cp⟩, rfl, hx3, ⟨phs, ov3.base hbs, ou3.base hbs, op3.base hbs, by omega, fun j hj => hkn j (by omega), fun j hj => (hix3 j (by omega)).base hbs⟩, rfl, rfl, rfl⟩

end Go.Proofs.Ytkiahgkfgcjkgaa
