/- A pack of texts: EdTwT, EdTwin, EdOwn3, EdNode, MeshRT, EdRTwin, EdSp, EdSpoil, EdFew, ByMath, ByLay, EdOpen, Open2. -/
import Derived.Deep.DeepCutAuto
import Derived.Laws.BitsAllLaws
import Derived.Laws.BytesString
import Derived.OpenShut
import Derived.Laws.MakeOwn
import Derived.Test.YtcekcihijdipoaaGreatProg
import Derived.Test.YtcekcihijdipoaaGreatPT10
import Derived.Test.YtcekcihijdipoaaGreatPT19
import Derived.Test.YtcekcihijdipoaaGreatPT12
import Derived.Test.YtcekcihijdipoaaGreatPT3
import Derived.Test.YtcekcihijdipoaaGreatPT14
import Derived.Test.YtcekcihijdipoaaGreatPT8
import Derived.Test.YtcekcihijdipoaaGreatPT6
import Derived.Test.YtcekcihijdipoaaGreatPT13
import Derived.Test.YtcekcihijdipoaaGreatPT1
import Derived.Test.YtcekcihijdipoaaGreatPT4
namespace Go.Proofs.YtcekcihijdipoaaGreat

section


open Go.RowKit Go.ChangeShapes Go.WideShapes Go.ChangeAt

set_option linter.unusedSimpArgs false

set_option linter.unusedVariables false

attribute [local go_sem] plus_size plus_drew dn_set dn_alloc dn_plus plus_dn cell_plus frozen_plus set_plus cell_alloc frozen_alloc set_alloc

theorem ttwin_at {h : TH} {m : Tp} {w : World} (a : TexAt w h m) (f : FewTp m) : Calls Tryz.prog 45 #[.agg (fTh h).toArray] w fun e w' => ∃ h', e = .returned (.agg (fTh h').toArray) ∧ (∃ y, w' = plus w y) ∧ TexOwn w w' h' m := by
  obtain ⟨tw, th, ao, n, cap⟩ := h
  have v := a.tx.lay.len
  have hnil := a.tx.nil
  simp only at v hnil
  unfold FewTp at f
  refine (ttwin_calls tw th ao n cap m.l w a.tx.lay (by omega) (fun e => (hnil e).2)).mono ?_
  rintro e w' ⟨ao', cap', rfl, hw, ho⟩
  exact ⟨⟨tw, th, ao', n, cap'⟩, rfl, hw, a.we, a.he, ho, fun k hk => a.tx.ok k (by simp only; omega)⟩

theorem run_make_T (n : Nat) (hn : n ≤ 100000) (w : World) : (Instr.makeSlice 30 (.int .i64 n) (.int .i64 n)).run Tryz.prog w = .ok (.slice (some ⟨w.heap.size, 0, none⟩) n n) (w.alloc (.cells ((List.replicate n th0).flatMap fTh).toArray 64)) :=
  run_make_zero (z := .agg (fTh th0).toArray) (c := 3) (b := 40) (by kernel_rfl) rfl Tryz.underlying30 fTh_c (by decide) (by decide) n hn w

def RetTs (w : World) (ns : List Tp) (n : Nat) (e : Ending) (w' : World) : Prop := ∃ (ao' : Option Addr) (cap' : Nat) (hs' : List TH) , e = .returned (.slice ao' n cap') ∧ (∃ y, w' = plus w y) ∧ Own 64 3 fTh w w' ao' n cap' hs' ∧ (∀ k, k < n → TexOwn w w' (nth th0 hs' k) (nth tp0 ns k))

set_option maxRecDepth 100000 in
set_option maxHeartbeats 4000000 in
theorem twinsT_calls (ao : Option Addr) (n cap : Nat) (hs : List TH) (ns : List Tp) (w : World) (hl : Lay fTh w ao n hs) (hA : TexsAt w hs ns) (hf : ∀ k, k < ns.length → FewTp (nth tp0 ns k)) (hn : n ≤ 100000) :
    Calls Tryz.prog 44 #[.slice ao n cap, .func (.func 45) #[] #[]] w fun e w' => RetTs w ns n e w' := by
  have hlen := hl.len
  have alen := hA.len
  have hmk := run_make_T n hn
  go_enter Tryz.func44, Tryz.ntmps44
  go_wp2
  go_loopw [13] (fun i wr => ∃ (k : Nat) (hs' : List TH) , k ≤ n ∧ i = .int .i64 k ∧ (∃ y, wr = plus w y) ∧ Own 64 3 fTh w wr (some ⟨w.heap.size, 0, none⟩) n n hs' ∧ (∀ j, j < k → TexOwn w wr (nth th0 hs' j) (nth tp0 ns j))) (fun i _ => n - (intOf i).toNat)
  case atStart => exact ⟨0, List.replicate n th0,  Nat.zero_le _, rfl, sk9,  own_row (by simp) fTh_c (by rw [blk_alloc, if_pos rfl]) (Nat.le_refl _) (Nat.le_trans hn (by decide)), fun j hj => by omega⟩
  case round =>
    obtain ⟨k, hs',  hk, rfl, hx,  ok, orow⟩ := hrel
    by_cases hkl : k < n
    · have ik : (k : Int) < (n : Int) := by omega
      obtain ⟨g1, o1, rfl, hg1, hc1⟩ := hl.some (by omega)
      have hp := lay_part (d := th0) hlen fTh_c hc1 hkl
      have aK := hA.one k (by omega)
      have fK := hf k (by omega)
      obtain ⟨gb, cur, eb, hgb, hbb, hsz⟩ := ok.blk (by omega)
      cases eb
      have lb := blk_lt hbb
      replace orow := Hush9.mk orow
      replace ok := Hush9.mk ok
      replace hp := Hush9.mk hp
      obtain ⟨q, hq⟩ : ∃ q, wr.heap.size = q := ⟨_, rfl⟩
      clear hc1
      go_upto_region 5 with (first | (refine wpList_load_part rfl 64 _ rfl g1 (o1 + k * 3) rfl (fTh (nth th0 hs k)) _ (fun j v hj => cell_ex (ex_trans hx sk9) (hp.it j v hj)) Tryz.underlying64 rfl (by kernel_rfl) ?_; simp only [Act.put, List.setIfInBounds_toArray, List.set_cons_succ, List.set_cons_zero]) | (refine wpList_store_box rfl 64 _ _ rfl q (fTh (nth th0 hs k)) (by simp [go_sem, hq]) rfl _ _ (by rw [← hq]; exact blk_new2 _ _) (by kernel_rfl) (by kernel_rfl) (fTh_1 _) ?_))
      refine name_w (fun w' => (∃ y, w' = plus wr y) ∧ w'.heap[q]? = some (.cells (fTh (nth th0 hs k)).toArray 64)) ⟨ex_row_new sk9 (by omega), blk_row_eq (by rw [← hq]; exact blk_new2 _ _)⟩ ?_
      try simp only [hq]
      rintro w2 ⟨x2, kq⟩
      have lq := blk_lt kq
      have aK := aK.ex (ex_trans hx x2)
      go_wp2_with (first | (refine wpList_load_row rfl 64 _ rfl q rfl _ _ _ _ kq Tryz.underlying64 rfl (by kernel_rfl) ?_) | (go_at_call 45; refine (ttwin_at (aK.ex sk9) fK).mono ?_; rintro e w3 ⟨h3, rfl, hx3, o3⟩) | (refine wpList_store_part rfl 64 _ _ rfl w.heap.size (k * 3) (fTh h3) (by simp [go_sem]) rfl _ cur (blk_ex (ex_trans x2 hx3) hbb) (by kernel_rfl) ((ok.it.set_row hbb hkl fTh_c h3).2) (fTh_1 _) ?_))
      go_roundw
      case rel =>
        refine ⟨k + 1, hs'.set k h3,  by omega, by go_num, ex_row_new (ex_trans (ex_trans hx x2) hx3) (Nat.le_refl _),  ((ok.it.ex (ex_trans x2 hx3)).set_row (blk_ex (ex_trans x2 hx3) hbb) (by omega) fTh_c h3).1, fun j hj => ?_⟩
        have hsl := ok.it.1
        rw [nth_set' (by omega)]
        by_cases ej : j = k
        · subst ej
          rw [if_pos rfl ]
          exact (o3.base (by have := size_ex hx; have := size_ex x2; omega)).row_other (blk_ex (ex_trans x2 hx3) hbb) (by decide)
        · rw [if_neg ej ]
          exact ((orow.it j (by omega)).ex (ex_trans x2 hx3)).row_other (blk_ex (ex_trans x2 hx3) hbb) (by decide)
      case measure => simp [intOf]; omega
    · have ik : ¬ (k : Int) < (n : Int) := by omega
      obtain rfl : n = k := by omega
      go_wp2
      go_ret
      exact ⟨_, _, hs',  rfl, ex_trans hx sk9, ok.ex sk9,  fun j hj => (orow j hj).ex sk9⟩

end

section


open Go.RowKit Go.ChangeShapes Go.WideShapes Go.ChangeAt

set_option linter.unusedSimpArgs false

set_option linter.unusedVariables false

attribute [local go_sem] plus_size plus_drew dn_set dn_alloc dn_plus plus_dn cell_plus frozen_plus set_plus cell_alloc frozen_alloc set_alloc

def SaysG (T w' : World) (g : Gr) (n kn : Nat) (v : Value) : Prop := ∃ ao' cap' ko' kcap' hs', v = .agg #[.slice ao' n cap', .slice ko' kn kcap'] ∧ GrOwn T w' ao' n cap' ko' kn kcap' hs' g

def SaysN (T w' : World) (ns : List Nd) (n : Nat) (v : Value) : Prop := ∃ ao' cap' hs', v = .slice ao' n cap' ∧ Own 56 33 fN T w' ao' n cap' hs' ∧ (∀ k, k < n → NodeOwn T w' (nth nh0 hs' k) (nth nd0 ns k))

def SaysM (T w' : World) (ns : List Ms) (n : Nat) (v : Value) : Prop := ∃ ao' cap' hs' ps', v = .slice ao' n cap' ∧ Own 61 3 fMh T w' ao' n cap' hs' ∧ ps'.length = n ∧ (∀ k, k < n → MeshOwn T w' (nth mh0 hs' k) (nth [] ps' k) (nth ms0 ns k))

def SaysT (T w' : World) (ns : List Tp) (n : Nat) (v : Value) : Prop := ∃ ao' cap' hs', v = .slice ao' n cap' ∧ Own 64 3 fTh T w' ao' n cap' hs' ∧ (∀ k, k < n → TexOwn T w' (nth th0 hs' k) (nth tp0 ns k))

section

variable {T T' w w' : World} {n kn : Nat} {v : Value}

theorem SaysG.ex {g : Gr} (h : SaysG T w g n kn v) (hw : ∃ y, w' = plus w y) : SaysG T w' g n kn v := by
  obtain ⟨a, c, k, kc, hs, h1, h2⟩ := h
  exact ⟨a, c, k, kc, hs, h1, h2.ex hw⟩

theorem SaysN.ex {ns : List Nd} (h : SaysN T w ns n v) (hw : ∃ y, w' = plus w y) : SaysN T w' ns n v := by
  obtain ⟨a, c, hs, h1, h2, h3⟩ := h
  exact ⟨a, c, hs, h1, h2.ex hw, fun k hk => (h3 k hk).ex hw⟩

theorem SaysM.ex {ns : List Ms} (h : SaysM T w ns n v) (hw : ∃ y, w' = plus w y) : SaysM T w' ns n v := by
  obtain ⟨a, c, hs, ps, h1, h2, hl, h3⟩ := h
  exact ⟨a, c, hs, ps, h1, h2.ex hw, hl, fun k hk => (h3 k hk).ex hw⟩

theorem SaysT.ex {ns : List Tp} (h : SaysT T w ns n v) (hw : ∃ y, w' = plus w y) : SaysT T w' ns n v := by
  obtain ⟨a, c, hs, h1, h2, h3⟩ := h
  exact ⟨a, c, hs, h1, h2.ex hw, fun k hk => (h3 k hk).ex hw⟩

theorem says_sc {g : Gr} {ns : List Nd} {ms : List Ms} {ts : List Tp} {r0 r1 : Int} {gn kn nn mn tn : Nat} {vg vn vm vt : Value} (hg : SaysG T w g gn kn vg) (hn : SaysN T w ns nn vn) (hm : SaysM T w ms mn vm) (ht : SaysT T w ts tn vt) (l1 : ns.length = nn) (l2 : ms.length = mn) (l3 : ts.length = tn) :
    ∃ (h : SH) (x : SX), vg = .agg #[.slice h.ga h.gn h.gc, .slice h.ka h.kn h.kc] ∧ vn = .slice h.na h.nn h.nc ∧ vm = .slice h.ma h.mn h.mc ∧ vt = .slice h.ta h.tn h.tc ∧ r0 = h.r0 ∧ r1 = h.r1 ∧ ScOwn T w h x ⟨g, ns, ms, ts, (r0, r1)⟩ := by
  obtain ⟨a1, c1, k1, kc1, hs1, rfl, o1⟩ := hg
  obtain ⟨a2, c2, hs2, rfl, o2, p2⟩ := hn
  obtain ⟨a3, c3, hs3, ps3, rfl, o3, l4, p3⟩ := hm
  obtain ⟨a4, c4, hs4, rfl, o4, p4⟩ := ht
  have n2 := o2.1
  have n3 := o3.1
  have n4 := o4.1
  exact ⟨⟨a1, gn, c1, k1, kn, kc1, a2, nn, c2, a3, mn, c3, a4, tn, c4, r0, r1⟩, ⟨hs1, hs2, hs3, ps3, hs4⟩, rfl, rfl, rfl, rfl, rfl, rfl, ⟨o1, o2, by simp only; omega, fun k hk => p2 k (by simp only at hk; omega), o3, by simp only; omega, fun k hk => p3 k (by simp only at hk; omega), o4, by simp only; omega, fun k hk => p4 k (by simp only at hk; omega), rfl, by simp only; omega⟩⟩

end

def teS (i : Nat) : List Nat := match i with | 0 => [3] | 1 => [4] | 2 => [5] | 3 => [6] | 4 => [7] | 5 => [8] | 6 => [9] | 7 => [10] | 8 => [11] | 9 => [12] | 10 => [13] | 11 => [14] | 12 => [15] | 13 => [16] | 14 => [17, 5, 8, 11, 14] | _ => []

def teΦ (W : World) (b : Nat) (ga ka na ma ta : Option Addr) (gn gc kn kc nn nc mn mc tn tc : Nat) (r0 r1 : Int) (sg : Gr) (sn : List Nd) (sm : List Ms) (st : List Tp) (i : Nat) (t : Nat → Value) (w' : World) : Prop := match i with
  | 0 => t 3 = .pointer (some ⟨b, 0, none⟩)
  | 1 => t 4 = .agg #[.slice ga gn gc, .slice ka kn kc]
  | 2 => SaysG W w' sg gn kn (t 5)
  | 3 => t 6 = .pointer (some ⟨b, 2, none⟩)
  | 4 => t 7 = .slice na nn nc
  | 5 => SaysN W w' sn nn (t 8)
  | 6 => t 9 = .pointer (some ⟨b, 3, none⟩)
  | 7 => t 10 = .slice ma mn mc
  | 8 => SaysM W w' sm mn (t 11)
  | 9 => t 12 = .pointer (some ⟨b, 4, none⟩)
  | 10 => t 13 = .slice ta tn tc
  | 11 => SaysT W w' st tn (t 14)
  | 12 => t 15 = .pointer (some ⟨b, 5, none⟩)
  | 13 => t 16 = .agg #[.int .i64 r0, .int .i64 r1]
  | 14 => ∃ a1 a2 v3 v4 v5, t 17 = .agg #[a1, a2, v3, v4, v5, .int .i64 r0, .int .i64 r1] ∧ t 5 = .agg #[a1, a2] ∧ t 8 = v3 ∧ t 11 = v4 ∧ t 14 = v5
  | _ => True

theorem teΦ_mono (W : World) (b : Nat) (ga ka na ma ta : Option Addr) (gn gc kn kc nn nc mn mc tn tc : Nat) (r0 r1 : Int) (sg : Gr) (sn : List Nd) (sm : List Ms) (st : List Tp) : ∀ i t t' w' x, teΦ W b ga ka na ma ta gn gc kn kc nn nc mn mc tn tc r0 r1 sg sn sm st i t w' → (∀ s ∈ teS i, t' s = t s) → teΦ W b ga ka na ma ta gn gc kn kc nn nc mn mc tn tc r0 r1 sg sn sm st i t' (plus w' x) := by
  intro i t t' w' x h hs'
  match i with
  | 0 => exact (hs' 3 (by decide)).trans h
  | 1 => exact (hs' 4 (by decide)).trans h
  | 2 => have := h.ex ⟨x, rfl⟩; rw [← hs' 5 (by decide)] at this; exact this
  | 3 => exact (hs' 6 (by decide)).trans h
  | 4 => exact (hs' 7 (by decide)).trans h
  | 5 => have := h.ex ⟨x, rfl⟩; rw [← hs' 8 (by decide)] at this; exact this
  | 6 => exact (hs' 9 (by decide)).trans h
  | 7 => exact (hs' 10 (by decide)).trans h
  | 8 => have := h.ex ⟨x, rfl⟩; rw [← hs' 11 (by decide)] at this; exact this
  | 9 => exact (hs' 12 (by decide)).trans h
  | 10 => exact (hs' 13 (by decide)).trans h
  | 11 => have := h.ex ⟨x, rfl⟩; rw [← hs' 14 (by decide)] at this; exact this
  | 12 => exact (hs' 15 (by decide)).trans h
  | 13 => exact (hs' 16 (by decide)).trans h
  | 14 => obtain ⟨a1, a2, v3, v4, v5, e0, e1, e2, e3, e4⟩ := h; exact ⟨a1, a2, v3, v4, v5, (hs' 17 (by decide)).trans e0, (hs' 5 (by decide)).trans e1, (hs' 8 (by decide)).trans e2, (hs' 11 (by decide)).trans e3, (hs' 14 (by decide)).trans e4⟩
  | i + 15 => trivial

set_option maxRecDepth 100000 in
set_option maxHeartbeats 8000000 in
theorem twin10_calls (h : SH) (xs : SX) (s : Sc) (w : World) (hA : ScAt w h xs s) : Calls Tryz.prog 15 #[vS h] w fun e w' => RetSc w s e w' := by
  have lnn := hA.nn.1
  have lmn := hA.mn.1
  have ltn := hA.tn.1
  have hG := hA.g
  have hR := hA.r
  have f := hA.f
  have b1 := f.nn
  have b2 := f.mn
  have b3 := f.tn
  have hroot := hR.root
  obtain ⟨sg, sn, sm, st, sr⟩ := s
  obtain ⟨ga, gn, gc, ka, kn, kc, na, nn, nc, ma, mn, mc, ta, tn, tc, r0, r1⟩ := h
  simp only at lnn lmn ltn hG b1 b2 b3 hroot
  subst hroot
  unfold vS
  simp only
  go_enter Tryz.func15, Tryz.ntmps15
  go_wp2
  refine name_w (fun w' => (∃ y, w' = plus w y) ∧ w'.heap[w.heap.size]? = some (.cells #[.slice ga gn gc, .slice ka kn kc, .slice na nn nc, .slice ma mn mc, .slice ta tn tc, .int .i64 r0, .int .i64 r1] 34) ∧ (∃ z : List Value, w'.heap[w.heap.size + 1]? = some (.cells z.toArray 34) ∧ z.length = 7) ∧ w'.heap.size = w.heap.size + 2) ⟨sk9, blk_old (blk_new2 _ _), ⟨_, by rw [← size_alloc w]; exact blk_new2 _ _, rfl⟩, by rw [size_alloc, size_alloc]⟩ ?_
  rintro W ⟨x1, k1, ⟨z, k2, hz⟩, z1⟩
  obtain ⟨b, hb⟩ : ∃ b, w.heap.size = b := ⟨_, rfl⟩
  simp only [hb] at k1 k2 z1 ⊢
  have c0 := cell_blk (i := 0) k1 rfl
  have c1 := cell_blk (i := 1) k1 rfl
  have c2 := cell_blk (i := 2) k1 rfl
  have c3 := cell_blk (i := 3) k1 rfl
  have c4 := cell_blk (i := 4) k1 rfl
  have c5 := cell_blk (i := 5) k1 rfl
  have c6 := cell_blk (i := 6) k1 rfl
  have hG1 := hG.ex x1
  have hR1 := hR.ex x1
  refine region_rel 15 teS (teΦ W b ga ka na ma ta gn gc kn kc nn nc mn mc tn tc r0 r1 sg sn sm st) (by kernel_rfl) (by kernel_rfl) rfl (teΦ_mono W b ga ka na ma ta gn gc kn kc nn nc mn mc tn tc r0 r1 sg sn sm st) ?steps ?fin
  case steps =>
    refine ⟨?_, ?_, ?_, ?_, ?_, ?_, ?_, ?_, ?_, ?_, ?_, ?_, ?_, ?_, ?_, trivial⟩
    · intro a w' hg hfree hdeep
      obtain ⟨x, rfl⟩ := hg
      have f1_ := hfree 1 (by kernel_rfl)
      simp only [teΦ, got] at f1_
      simp [go_sem] at f1_
      unfold Oper.wp
      simp [go_sem, execOp, Act.eval, ↓IntWalk.iteOmega, f1_]
      exact ⟨_, rfl, ex_refl _, by simp [teΦ, upd]⟩
    · intro a w' hg hfree hdeep
      obtain ⟨x, rfl⟩ := hg
      have d0 := hdeep 0 (by kernel_rfl)
      simp only [teΦ, got] at d0
      have d_0 := cell_ex ⟨x, rfl⟩ c0
      have d_1 := cell_ex ⟨x, rfl⟩ c1
      unfold Oper.wp
      simp [go_sem, execOp, Act.eval, ↓IntWalk.iteOmega, d0, d_0, d_1]
      exact ⟨_, rfl, ex_refl _, by simp [teΦ, upd]⟩
    · intro a w' hg hfree hdeep
      obtain ⟨x, rfl⟩ := hg
      have d1 := hdeep 1 (by kernel_rfl)
      simp only [teΦ, got] at d1
      unfold Oper.wp
      simp [go_sem, execOp, Act.eval, ↓IntWalk.iteOmega, d1]
      refine (ntwin_calls _ _ _ _ _ _ xs.gr sg _ (hG1.ex sk9)).mono ?_
      rintro e w2 ⟨a1, c1', k1', kc1, hs1, rfl, hw2, o1⟩
      exact ⟨_, rfl, hw2, by simp only [teΦ, upd]; simp; exact ⟨a1, c1', k1', kc1, hs1, rfl, o1.base (by rw [plus_size]; omega)⟩⟩
    · intro a w' hg hfree hdeep
      obtain ⟨x, rfl⟩ := hg
      have f1_ := hfree 1 (by kernel_rfl)
      simp only [teΦ, got] at f1_
      simp [go_sem] at f1_
      unfold Oper.wp
      simp [go_sem, execOp, Act.eval, ↓IntWalk.iteOmega, f1_]
      exact ⟨_, rfl, ex_refl _, by simp [teΦ, upd]⟩
    · intro a w' hg hfree hdeep
      obtain ⟨x, rfl⟩ := hg
      have d3 := hdeep 3 (by kernel_rfl)
      simp only [teΦ, got] at d3
      have d_2 := cell_ex ⟨x, rfl⟩ c2
      unfold Oper.wp
      simp [go_sem, execOp, Act.eval, ↓IntWalk.iteOmega, d3, d_2]
      exact ⟨_, rfl, ex_refl _, by simp [teΦ, upd]⟩
    · intro a w' hg hfree hdeep
      obtain ⟨x, rfl⟩ := hg
      have d4 := hdeep 4 (by kernel_rfl)
      simp only [teΦ, got] at d4
      unfold Oper.wp
      simp [go_sem, execOp, Act.eval, ↓IntWalk.iteOmega, d4]
      refine (twinsN_calls _ nn _ xs.nh sn _ (hR1.nl.ex sk9) (hR1.ns.ex sk9) f.ns (by omega)).mono ?_
      rintro e w2 ⟨a1, c1', hs1, rfl, hw2, o1, p1⟩
      exact ⟨_, rfl, hw2, by simp only [teΦ, upd]; simp; exact ⟨a1, c1', hs1, rfl, o1.base (by rw [plus_size]; omega), fun k hk => (p1 k hk).base (by rw [plus_size]; omega)⟩⟩
    · intro a w' hg hfree hdeep
      obtain ⟨x, rfl⟩ := hg
      have f1_ := hfree 1 (by kernel_rfl)
      simp only [teΦ, got] at f1_
      simp [go_sem] at f1_
      unfold Oper.wp
      simp [go_sem, execOp, Act.eval, ↓IntWalk.iteOmega, f1_]
      exact ⟨_, rfl, ex_refl _, by simp [teΦ, upd]⟩
    · intro a w' hg hfree hdeep
      obtain ⟨x, rfl⟩ := hg
      have d6 := hdeep 6 (by kernel_rfl)
      simp only [teΦ, got] at d6
      have d_3 := cell_ex ⟨x, rfl⟩ c3
      unfold Oper.wp
      simp [go_sem, execOp, Act.eval, ↓IntWalk.iteOmega, d6, d_3]
      exact ⟨_, rfl, ex_refl _, by simp [teΦ, upd]⟩
    · intro a w' hg hfree hdeep
      obtain ⟨x, rfl⟩ := hg
      have d7 := hdeep 7 (by kernel_rfl)
      simp only [teΦ, got] at d7
      unfold Oper.wp
      simp [go_sem, execOp, Act.eval, ↓IntWalk.iteOmega, d7]
      refine (twinsM_calls _ mn _ xs.mh xs.ph sm _ (hR1.ml.ex sk9) (hR1.ms.ex sk9) f.ms (by omega)).mono ?_
      rintro e w2 ⟨a1, c1', hs1, ps1, rfl, hw2, o1, l1, p1⟩
      exact ⟨_, rfl, hw2, by simp only [teΦ, upd]; simp; exact ⟨a1, c1', hs1, ps1, rfl, o1.base (by rw [plus_size]; omega), l1, fun k hk => (p1 k hk).base (by rw [plus_size]; omega)⟩⟩
    · intro a w' hg hfree hdeep
      obtain ⟨x, rfl⟩ := hg
      have f1_ := hfree 1 (by kernel_rfl)
      simp only [teΦ, got] at f1_
      simp [go_sem] at f1_
      unfold Oper.wp
      simp [go_sem, execOp, Act.eval, ↓IntWalk.iteOmega, f1_]
      exact ⟨_, rfl, ex_refl _, by simp [teΦ, upd]⟩
    · intro a w' hg hfree hdeep
      obtain ⟨x, rfl⟩ := hg
      have d9 := hdeep 9 (by kernel_rfl)
      simp only [teΦ, got] at d9
      have d_4 := cell_ex ⟨x, rfl⟩ c4
      unfold Oper.wp
      simp [go_sem, execOp, Act.eval, ↓IntWalk.iteOmega, d9, d_4]
      exact ⟨_, rfl, ex_refl _, by simp [teΦ, upd]⟩
    · intro a w' hg hfree hdeep
      obtain ⟨x, rfl⟩ := hg
      have d10 := hdeep 10 (by kernel_rfl)
      simp only [teΦ, got] at d10
      unfold Oper.wp
      simp [go_sem, execOp, Act.eval, ↓IntWalk.iteOmega, d10]
      refine (twinsT_calls _ tn _ xs.th st _ (hR1.tl.ex sk9) (hR1.ts.ex sk9) f.ts (by omega)).mono ?_
      rintro e w2 ⟨a1, c1', hs1, rfl, hw2, o1, p1⟩
      exact ⟨_, rfl, hw2, by simp only [teΦ, upd]; simp; exact ⟨a1, c1', hs1, rfl, o1.base (by rw [plus_size]; omega), fun k hk => (p1 k hk).base (by rw [plus_size]; omega)⟩⟩
    · intro a w' hg hfree hdeep
      obtain ⟨x, rfl⟩ := hg
      have f1_ := hfree 1 (by kernel_rfl)
      simp only [teΦ, got] at f1_
      simp [go_sem] at f1_
      unfold Oper.wp
      simp [go_sem, execOp, Act.eval, ↓IntWalk.iteOmega, f1_]
      exact ⟨_, rfl, ex_refl _, by simp [teΦ, upd]⟩
    · intro a w' hg hfree hdeep
      obtain ⟨x, rfl⟩ := hg
      have d12 := hdeep 12 (by kernel_rfl)
      simp only [teΦ, got] at d12
      have d_5 := cell_ex ⟨x, rfl⟩ c5
      have d_6 := cell_ex ⟨x, rfl⟩ c6
      unfold Oper.wp
      simp [go_sem, execOp, Act.eval, ↓IntWalk.iteOmega, d12, d_5, d_6]
      exact ⟨_, rfl, ex_refl _, by simp [teΦ, upd]⟩
    · intro a w' hg hfree hdeep
      obtain ⟨x, rfl⟩ := hg
      obtain ⟨a1, c1', k1', kc1, hs1, e5, _⟩ : SaysG W _ sg gn kn (got a 5) := hdeep 2 (by kernel_rfl)
      obtain ⟨a2, c2', hs2, e8, _⟩ : SaysN W _ sn nn (got a 8) := hdeep 5 (by kernel_rfl)
      obtain ⟨a3, c3', hs3, ps3, e11, _⟩ : SaysM W _ sm mn (got a 11) := hdeep 8 (by kernel_rfl)
      obtain ⟨a4, c4', hs4, e14, _⟩ : SaysT W _ st tn (got a 14) := hdeep 11 (by kernel_rfl)
      have e16 : got a 16 = .agg #[.int .i64 r0, .int .i64 r1] := hdeep 13 (by kernel_rfl)
      have g5 := e5
      have g8 := e8
      have g11 := e11
      have g14 := e14
      have g16 := e16
      simp only [got] at g5 g8 g11 g14 g16
      simp at g5 g8 g11 g14 g16
      unfold Oper.wp
      simp [go_sem, execOp, Act.eval, ↓IntWalk.iteOmega, g5, g8, g11, g14, g16]
      exact ⟨_, rfl, ex_refl _, .slice a1 gn c1', .slice k1' kn kc1, .slice a2 nn c2', .slice a3 mn c3', .slice a4 tn c4', by simp [upd], by simp [upd]; exact e5, by simp [upd]; exact e8, by simp [upd]; exact e11, by simp [upd]; exact e14⟩
  case fin =>
    rintro t w1 hg hΦ o ho
    have hr := hΦ 13 (by decide)
    obtain ⟨a1, a2, v3, v4, v5, e17, e5, e8, e11, e14⟩ := hΦ 14 (by decide)
    obtain ⟨h', x', q1, q2, q3, q4, q5, q6, own⟩ := says_sc (r0 := r0) (r1 := r1) (hΦ 2 (by decide)) (hΦ 5 (by decide)) (hΦ 8 (by decide)) (hΦ 11 (by decide)) lnn lmn ltn
    rw [q1] at e5
    rw [q2] at e8
    rw [q3] at e11
    rw [q4] at e14
    cases e5
    subst e8 e11 e14 q5 q6
    clear hΦ hr
    have kb := blk_ex hg k2
    have kr := blk_row_eq (cs := (scCells h').toArray) kb
    simp only [List.getElem?_cons_succ, List.getElem?_cons_zero, Option.some.injEq] at ho
    subst ho
    simp only [putAll, List.take_succ_cons, List.take_zero]
    simp only [Act.put]
    simp only [List.setIfInBounds_toArray, List.set_cons_succ, List.set_cons_zero]
    refine wp_store_row 34 _ _ rfl (b + 1) (scCells h').toArray rfl e17 _ _ kb (by kernel_rfl) (by simpa [scCells] using hz) (Array.all_eq_true_iff_forall_mem.2 fun v hv => scCells_1 _ v (by simpa using hv)) ?_
    have hx2 := ex_row_new (cs := (scCells h').toArray) (ex_trans x1 hg) (g := b + 1) (by omega)
    have own2 := (own.row_out (cs := (scCells h').toArray) (g := b + 1) (by omega)).base (T' := w) (by omega)
    generalize w1.setRow (b + 1) (scCells h').toArray = w2 at *
    go_wp2
    exact bodyPost_ret (v := vS h') (results_cell_row Tryz.results15 _ _ (b + 1) 34 _ _ _ rfl kr Tryz.underlying34 rfl (by kernel_rfl)) rfl ⟨h', x', rfl, hx2, own2⟩

end

section


open Go.RowKit

section

variable {T w w1 : World} {h : SH} {x : SX} {s : Sc} {ao' : Option Addr} {cap' : Nat}

theorem NodeOwn.grown {e : TypeId} {c : Nat} {α : Type} {f : α → List Value} {ao : Option Addr} {n cap : Nat} {l : List α} {hn : NH} {nd : Nd} (hgr : w.grownBy w1 (Value.ownBlock (.slice ao n cap))) (hown : Own e c f T w ao n cap l) (a : NodeOwn T w hn nd) (he : 3 ≠ e) : NodeOwn T w1 hn nd :=
  ⟨a.f, a.b, grown_own hgr hown a.far he⟩

theorem MeshOwn.grown {e : TypeId} {c : Nat} {α : Type} {f : α → List Value} {ao : Option Addr} {n cap : Nat} {l : List α} {hm : MH} {hs : List PH} {m : Ms} (hgr : w.grownBy w1 (Value.ownBlock (.slice ao n cap))) (hown : Own e c f T w ao n cap l) (a : MeshOwn T w hm hs m) (h1 : 43 ≠ e) (h2 : 137 ≠ e) (h3 : 131 ≠ e) (h4 : 3 ≠ e) : MeshOwn T w1 hm hs m :=
  ⟨⟨grown_own hgr hown a.t.v h1, grown_own hgr hown a.t.u h2, grown_own hgr hown a.t.p h3, a.t.len, a.t.kind, fun k hk => grown_own hgr hown (a.t.ix k hk) h4⟩, a.b⟩

theorem TexOwn.grown {e : TypeId} {c : Nat} {α : Type} {f : α → List Value} {ao : Option Addr} {n cap : Nat} {l : List α} {ht : TH} {t : Tp} (hgr : w.grownBy w1 (Value.ownBlock (.slice ao n cap))) (hown : Own e c f T w ao n cap l) (a : TexOwn T w ht t) (h1 : 50 ≠ e) : TexOwn T w1 ht t :=
  ⟨a.we, a.he, grown_own hgr hown a.tx h1, a.ok⟩

theorem GrOwn.grown {e : TypeId} {c : Nat} {α : Type} {f : α → List Value} {ao : Option Addr} {n cap : Nat} {l : List α} {ga ko : Option Addr} {gn gc kn kc : Nat} {hs : List RH} {g : Gr} (hgr : w.grownBy w1 (Value.ownBlock (.slice ao n cap))) (hown : Own e c f T w ao n cap l) (a : GrOwn T w ga gn gc ko kn kc hs g) (h1 : 86 ≠ e) (h2 : 88 ≠ e) (h3 : 32 ≠ e) : GrOwn T w1 ga gn gc ko kn kc hs g :=
  ⟨grown_own hgr hown a.sl h1, grown_own hgr hown a.kh h2, a.len, fun k hk => grown_own hgr hown (a.row k hk) h3⟩

end

end

section


open Go.RowKit Go.ChangeShapes Go.WideShapes Go.ChangeAt

set_option linter.unusedSimpArgs false

set_option linter.unusedVariables false

attribute [local go_sem] plus_size plus_drew dn_set dn_alloc dn_plus plus_dn cell_plus frozen_plus set_plus cell_alloc frozen_alloc set_alloc

end

section


open Go.RowKit Go.ChangeShapes Go.WideShapes Go.ChangeAt

set_option linter.unusedSimpArgs false

set_option linter.unusedVariables false

attribute [local go_sem] plus_size plus_drew dn_set dn_alloc dn_plus plus_dn cell_plus frozen_plus set_plus cell_alloc frozen_alloc set_alloc

attribute [local go_sem] eqarr_40 nearr_40 larr_40

attribute [local go_sem] eqarr_137 nearr_137 larr_137

attribute [local go_sem] isnil_47

attribute [local go_sem] isnil_57

attribute [local go_sem] isnil_58

attribute [local go_sem] isnil_59

def rtS (i : Nat) : List Nat := match i with | 0 => [32] | 1 => [33] | 2 => [34] | 3 => [35] | 4 => [36] | 5 => [37] | 6 => [38] | 7 => [39] | 8 => [40] | 9 => [41] | _ => []

def rtΦ (T : World) (b q gm off k pn pc n1 cap1 : Nat) (ao1 : Option Addr) (ix : List Int) (i : Nat) (t : Nat → Value) (w' : World) : Prop := match i with
  | 0 => t 32 = .pointer (some ⟨q, 1, none⟩)
  | 1 => t 33 = .slice none 0 0
  | 2 => t 34 = .pointer (some ⟨b, 2, none⟩)
  | 3 => t 35 = .slice (some ⟨gm, off, none⟩) pn pc
  | 4 => t 36 = .int .i64 k
  | 5 => t 37 = .pointer (some ⟨gm, off + k * 2, none⟩)
  | 6 => t 38 = .pointer (some ⟨gm, off + k * 2 + 1, none⟩)
  | 7 => t 39 = .slice ao1 n1 cap1
  | 8 => ∃ a c, t 40 = .slice a n1 c ∧ Own 3 1 fI T w' a n1 c ix
  | 9 => t 41 = .pointer (some ⟨q, 1, none⟩)
  | _ => True

end

section


open Go.RowKit Go.ChangeShapes Go.WideShapes Go.ChangeAt

set_option linter.unusedSimpArgs false

set_option linter.unusedVariables false

attribute [local go_sem] plus_size plus_drew dn_set dn_alloc dn_plus plus_dn cell_plus frozen_plus set_plus cell_alloc frozen_alloc set_alloc

theorem kinNE : Kin Tryz.prog 28 56 33 224 := ⟨Tryz.underlying28, info_parts9 (z := .agg (fN nh0).toArray) (by kernel_rfl) rfl, by decide⟩

theorem kinME : Kin Tryz.prog 29 61 3 72 := ⟨Tryz.underlying29, info_parts9 (z := .agg (fMh mh0).toArray) (by kernel_rfl) rfl, by decide⟩

theorem kinTE : Kin Tryz.prog 30 64 3 40 := ⟨Tryz.underlying30, info_parts9 (z := .agg (fTh th0).toArray) (by kernel_rfl) rfl, by decide⟩

structure TwI (w wr : World) (b q : Nat) (PC : Array Value) (h : SH) (x : SX) (s : Sc) : Prop where
  ex : ∃ y, wr = plus w y
  own : ScOwn w wr h x s
  bx : wr.heap[q]? = some (.cells (scCells h).toArray 34)
  bp : wr.heap[b]? = some (.cells PC 34)
  br : ∃ z : List Value, wr.heap[b + 1]? = some (.cells z.toArray 34) ∧ z.length = 7

theorem TwI.on {w wr w1 : World} {b q : Nat} {PC : Array Value} {h : SH} {x : SX} {s : Sc} (a : TwI w wr b q PC h x s) (hw : ∃ y, w1 = plus wr y) : TwI w w1 b q PC h x s := by
  obtain ⟨z, h1, h2⟩ := a.br
  exact ⟨ex_trans a.ex hw, a.own.ex hw, blk_ex hw a.bx, blk_ex hw a.bp, z, blk_ex hw h1, h2⟩

theorem lay_one10 {α : Type} {f : α → List Value} {w : World} {g : Nat} {e : TypeId} {x : α} (h : w.heap[g]? = some (.cells (f x).toArray e)) : Lay f w (some ⟨g, 0, none⟩) 1 [x] := by
  refine ⟨rfl, .inr ⟨g, 0, rfl, blk_lt h, fun j u hu => ?_⟩⟩
  rw [Nat.zero_add]
  exact cell_of h (by simpa using hu)

def r1S (i : Nat) : List Nat := match i with | 0 => [7] | 1 => [8] | 2 => [9] | 3 => [10] | 4 => [11] | 5 => [12, 9] | 6 => [3] | _ => []

def r1Φ (W : World) (b : Nat) (ga ka : Option Addr) (gn gc kn kc : Nat) (r0 r1 : Int) (sg : Gr) (i : Nat) (t : Nat → Value) (w' : World) : Prop := match i with
  | 0 => t 7 = .pointer (some ⟨b, 0, none⟩)
  | 1 => t 8 = .agg #[.slice ga gn gc, .slice ka kn kc]
  | 2 => SaysG W w' sg gn kn (t 9)
  | 3 => t 10 = .pointer (some ⟨b, 5, none⟩)
  | 4 => t 11 = .agg #[.int .i64 r0, .int .i64 r1]
  | 5 => ∃ a1 a2, t 12 = .agg #[a1, a2, .slice none 0 0, .slice none 0 0, .slice none 0 0, .int .i64 r0, .int .i64 r1] ∧ t 9 = .agg #[a1, a2]
  | 6 => ∃ q, t 3 = .pointer (some ⟨q, 0, none⟩) ∧ W.heap.size ≤ q ∧ ∃ z : List Value, w'.heap[q]? = some (.cells z.toArray 34) ∧ z.length = 7
  | _ => True

def lNS (i : Nat) : List Nat := match i with | 0 => [20] | 1 => [21] | 2 => [22] | 3 => [23] | 4 => [24] | 5 => [25] | 6 => [26] | 7 => [27] | 8 => [28] | _ => []

def lNΦ (w : World) (b q k g1 o1 n cap : Nat) (ao : Option Addr) (m ac : Nat) (H : NH) (X : Nd) (i : Nat) (t : Nat → Value) (w' : World) : Prop := match i with
  | 0 => t 20 = .pointer (some ⟨q, 2, none⟩)
  | 1 => t 21 = .slice ao m ac
  | 2 => t 22 = .pointer (some ⟨b, 2, none⟩)
  | 3 => t 23 = .slice (some ⟨g1, o1, none⟩) n cap
  | 4 => t 24 = .int .i64 k
  | 5 => t 25 = .pointer (some ⟨g1, o1 + k * 33, none⟩)
  | 6 => t 26 = .agg (fN H).toArray
  | 7 => ∃ (hn : NH), t 27 = .agg (fN hn).toArray ∧ NodeOwn w w' hn X
  | 8 => ∃ (hn : NH) (g2 : Nat), t 28 = .slice (some ⟨g2, 0, none⟩) 1 1 ∧ NodeOwn w w' hn X ∧ Lay fN w' (some ⟨g2, 0, none⟩) 1 [hn]
  | _ => True

def lMS (i : Nat) : List Nat := match i with | 0 => [38] | 1 => [39] | 2 => [40] | 3 => [41] | 4 => [42] | 5 => [43] | 6 => [44] | 7 => [45] | 8 => [46] | _ => []

def lMΦ (w : World) (b q k g1 o1 n cap : Nat) (ao : Option Addr) (m ac : Nat) (H : MH) (X : Ms) (i : Nat) (t : Nat → Value) (w' : World) : Prop := match i with
  | 0 => t 38 = .pointer (some ⟨q, 3, none⟩)
  | 1 => t 39 = .slice ao m ac
  | 2 => t 40 = .pointer (some ⟨b, 3, none⟩)
  | 3 => t 41 = .slice (some ⟨g1, o1, none⟩) n cap
  | 4 => t 42 = .int .i64 k
  | 5 => t 43 = .pointer (some ⟨g1, o1 + k * 3, none⟩)
  | 6 => t 44 = .agg (fMh H).toArray
  | 7 => ∃ (hn : MH) (ps : List PH), t 45 = .agg (fMh hn).toArray ∧ MeshOwn w w' hn ps X
  | 8 => ∃ (hn : MH) (ps : List PH) (g2 : Nat), t 46 = .slice (some ⟨g2, 0, none⟩) 1 1 ∧ MeshOwn w w' hn ps X ∧ Lay fMh w' (some ⟨g2, 0, none⟩) 1 [hn]
  | _ => True

def lTS (i : Nat) : List Nat := match i with | 0 => [56] | 1 => [57] | 2 => [58] | 3 => [59] | 4 => [60] | 5 => [61] | 6 => [62] | 7 => [63] | 8 => [64] | _ => []

def lTΦ (w : World) (b q k g1 o1 n cap : Nat) (ao : Option Addr) (m ac : Nat) (H : TH) (X : Tp) (i : Nat) (t : Nat → Value) (w' : World) : Prop := match i with
  | 0 => t 56 = .pointer (some ⟨q, 4, none⟩)
  | 1 => t 57 = .slice ao m ac
  | 2 => t 58 = .pointer (some ⟨b, 4, none⟩)
  | 3 => t 59 = .slice (some ⟨g1, o1, none⟩) n cap
  | 4 => t 60 = .int .i64 k
  | 5 => t 61 = .pointer (some ⟨g1, o1 + k * 3, none⟩)
  | 6 => t 62 = .agg (fTh H).toArray
  | 7 => ∃ (hn : TH), t 63 = .agg (fTh hn).toArray ∧ TexOwn w w' hn X
  | 8 => ∃ (hn : TH) (g2 : Nat), t 64 = .slice (some ⟨g2, 0, none⟩) 1 1 ∧ TexOwn w w' hn X ∧ Lay fTh w' (some ⟨g2, 0, none⟩) 1 [hn]
  | _ => True

end

section


open Go.RowKit

set_option linter.unusedVariables false

def leafTypes : List TypeId := [3, 32, 43, 50]

structure SpW (T w0 wr : World) : Prop where
  ex : ∃ y, wr = plus T y
  blk : ∀ (g : Nat) (cur : Array Value) (e : TypeId), w0.heap[g]? = some (.cells cur e) → ∃ cur' : Array Value, wr.heap[g]? = some (.cells cur' e) ∧ cur'.size = cur.size ∧ (e ∉ leafTypes → e ≠ 56 → cur' = cur) ∧ (e = 56 → ∀ i, i % 33 ≠ 0 → cur'[i]? = cur[i]?)

section

variable {T w0 wr : World} {g i : Nat} {cur cur0 : Array Value} {e : TypeId} {u : Value}

theorem SpW.start (hx : ∃ y, w0 = plus T y) : SpW T w0 w0 := ⟨hx, fun g cur e h => ⟨cur, h, rfl, fun _ _ => rfl, fun _ _ _ => rfl⟩⟩

theorem SpW.step (h : SpW T w0 wr) (hb : wr.heap[g]? = some (.cells cur e)) (hT : T.heap.size ≤ g) (he : e ∈ leafTypes ∨ (e = 56 ∧ i % 33 = 0)) : SpW T w0 (wr.setCell ⟨g, i, none⟩ u) := by
  refine ⟨ex_set_new h.ex hT, fun k c0 e0 h0 => ?_⟩
  obtain ⟨c1, h1, h2, h3, h4⟩ := h.blk k c0 e0 h0
  by_cases hk : g = k
  · subst hk
    rw [hb] at h1
    cases h1
    refine ⟨_, blk_set_eq hb, by simpa using h2, fun n1 n2 => ?_, fun n1 j hj => ?_⟩
    · rcases he with he | he
      · exact absurd he n1
      · exact absurd he.1 n2
    · rw [← h4 n1 j hj]
      rcases he with he | he
      · subst n1; exact absurd he (by decide)
      · rw [Array.getElem?_setIfInBounds]
        split
        · rename_i e2; subst e2; exact absurd he.2 hj
        · rfl
  · exact ⟨c1, (blk_set_ne hk).trans h1, h2, h3, h4⟩

theorem SpW.cell (h : SpW T w0 wr) (hb : w0.heap[g]? = some (.cells cur0 e)) (hc : w0.cell? ⟨g, i, none⟩ = some u) (he : (e ∉ leafTypes ∧ e ≠ 56) ∨ (e = 56 ∧ i % 33 ≠ 0)) : wr.cell? ⟨g, i, none⟩ = some u := by
  obtain ⟨c1, h1, h2, h3, h4⟩ := h.blk g cur0 e hb
  have hi : cur0[i]? = some u := by simpa [World.cell?, hb] using hc
  refine cell_blk h1 ?_
  rcases he with he | he
  · rw [h3 he.1 he.2]; exact hi
  · rw [h4 he.1 i he.2]; exact hi

theorem SpW.any (h : SpW T w0 wr) (hb : w0.heap[g]? = some (.cells cur0 e)) (hi : i < cur0.size) : (∃ cur, wr.heap[g]? = some (.cells cur e)) ∧ (∃ u, wr.cell? ⟨g, i, none⟩ = some u) ∧ wr.frozen? ⟨g, i, none⟩ = false := by
  obtain ⟨c1, h1, h2, h3, h4⟩ := h.blk g cur0 e hb
  exact ⟨⟨c1, h1⟩, ⟨c1[i]'(by omega), cell_blk h1 (by simp [show i < c1.size by omega])⟩, frozen_blk h1⟩

end

end

section


open Go.RowKit Go.ChangeShapes Go.WideShapes Go.ChangeAt

set_option linter.unusedSimpArgs false

set_option linter.unusedVariables false

attribute [local go_sem] plus_size plus_drew dn_set dn_alloc dn_plus plus_dn cell_plus frozen_plus set_plus cell_alloc frozen_alloc set_alloc

end

section


open Go.RowKit Go.ChangeShapes Go.WideShapes Go.ChangeAt

set_option linter.unusedSimpArgs false

set_option linter.unusedVariables false

attribute [local go_sem] plus_size plus_drew dn_set dn_alloc dn_plus plus_dn cell_plus frozen_plus set_plus cell_alloc frozen_alloc set_alloc

theorem wpList_row_guarded {P : Program} {ops : Array Oper} {rest : List Oper} {o : Oper} {a : Act} {w : World} {Q : Exit → Act → World → Prop} (ty : TypeId) (x : Operand) (ho : o.op = .load ty x)
    (g : Nat) (hx : a.eval x = .pointer (some ⟨g, 0, none⟩)) (t : TypeId) (cs : Array Value) (fr : Nat × Nat) (d : TypeDesc) (hg : w.heap[g]? = some (.cells cs t fr))
    (hu : P.underlying ty = some d) (hd : (match d with | .struct _ | .array _ _ => true | _ => false) = true) (hi : (P.info? ty).map (·.size) = some cs.size) (hw : Region.wanted o (yielded ops a.tmps) = true)
    (h : wpList P ops Q rest (a.put o.dst (.agg cs)) w) : wpList P ops Q (o :: rest) a w :=
  wpList_step fun K hK => by rw [if_pos hw]; exact wp_load_row ty x ho g hx t cs fr d hg hu hd hi (hK _ _ h)

structure OneV (F : FuncId) (w1 : World) (c : List Value) (v : Value) : Prop where
  it : ∀ w', (∃ y, w' = plus w1 y) → Calls Tryz.prog F #[.agg c.toArray] w' fun e w'' => e = .returned v ∧ ∃ y, w'' = plus w' y

structure TwoV (F : FuncId) (w1 : World) (c c' : List Value) (v : Value) : Prop where
  it : ∀ w', (∃ y, w' = plus w1 y) → Calls Tryz.prog F #[.agg c.toArray, .agg c'.toArray] w' fun e w'' => e = .returned v ∧ ∃ y, w'' = plus w' y

theorem samePr_rfl (p : Pr) : samePr p p = true := by
  rw [samePr, decide_eq_true rfl, show sameI p.ix p.ix = true from same_refl eqI_refl _]
  rfl

theorem sameMs_rfl (m : Ms) : sameMs m m = true := by
  rw [sameMs, show sameV m.vs m.vs = true from same_refl eqV_refl _, show same2 m.uv m.uv = true from same_refl eq2_refl _, show samePs m.ps m.ps = true from same_refl samePr_rfl _]
  rfl

theorem few_great {w : World} {h : SH} {x : SX} {s : Sc} (hG : GrIn w h.ga h.gn h.ka h.kn x.gr s.g) (hR : RestAt w h x s) (hg : greatSc h x = false) : ScAt w h x s := by
  simp only [greatSc, Bool.or_eq_false_iff, decide_eq_false_iff_not, List.any_eq_false, List.mem_range] at hg
  obtain ⟨g1, g2, g3, g4, g5, g6, g7⟩ := hg
  have hGA := hG.few g1
  have nl := hR.nl.len
  have nl2 := hR.ns.len
  have ml := hR.ml.len
  have ml2 := hR.ms.len
  have tl := hR.tl.len
  have tl2 := hR.ts.len
  have gt := great_noT g5
  refine ⟨hGA, hR, ⟨?_, ?_, ?_, by omega, by omega, by omega, ?_, ?_, ?_⟩⟩
  · rw [hGA.sl.len]; exact hGA.n1
  · rw [hGA.kl]; exact hGA.n2
  · intro k hk
    have hk2 : k < x.gr.length := by rw [hGA.len]; exact hk
    rw [(hGA.row k hk2).len]
    exact hGA.n3 k hk2
  · intro k hk
    have h1 := (hR.ns.one k (by omega)).lay.len
    have h2 := g6 _ (nth_mem (d := nh0) (k := k) (by omega))
    simp only [decide_eq_true_eq] at h2
    unfold FewNd
    omega
  · intro k hk
    have hM := hR.ms.one k (by omega)
    have h2 := g7 k (by omega)
    have h3 := great_noM (by simpa [meshG] using h2)
    obtain ⟨q1, q2, q3, q4⟩ := h3
    have v := hM.vl.len
    have u := hM.ul.len
    have p := hM.pl.len
    have q := hM.pp.len
    refine ⟨by omega, by omega, by omega, fun j hj => ?_⟩
    have h4 := (hM.pp.one j (by omega)).lay.len
    have h5 := q4 j (by omega)
    omega
  · intro k hk
    have h1 := (hR.ts.one k (by omega)).tx.lay.len
    have h2 := gt.2 k (by omega)
    unfold FewTp
    omega

theorem sameSc_refl (s : Sc) : sameSc s s = true := by
  have h1 : sameG s.g s.g = true := sameG_refl _
  have h2 : sameTps s.ts s.ts = true := same_refl (eq := sameTp) (fun a => sameT_refl a.w a.h a.l) _
  have h3 : sameNds s.ns s.ns = true := same_refl sameNd_refl _
  have h4 : sameMss s.ms s.ms = true := same_refl (fun a => sameMs_rfl a) _
  simp [sameSc, h1, h2, h3, h4]

theorem lsame10_is {h : SH} {x : SX} {s : Sc} {h' : SH} {x' : SX} {s' : Sc} {w : World} (hA : ScAt w h x s) (hA' : ScAt w h' x' s') {v : Bool} (hv : sameSc s s' = v) :
    Calls Tryz.prog 20 #[.agg (scCells h).toArray, .agg (scCells h').toArray] w fun e w' => e = .returned (.bool v) ∧ ∃ y, w' = plus w y := lsame10_calls h x s h' x' s' w hA hA' hv

theorem lcheck10_is {h : SH} {x : SX} {s : Sc} {w : World} (hA : ScAt w h x s) {v : Int} (hv : scErr s = v) :
    Calls Tryz.prog 12 #[.agg (scCells h).toArray] w fun e w' => e = .returned (.int .i64 v) ∧ ∃ y, w' = plus w y := hv ▸ lcheck10_calls h x s w hA

theorem lcheckNd_v {h : SH} {hn : NH} {n : Nd} {w : World} (hN : NodeAt w hn n) (s1 : hn.n ≤ 10000) {v : Int} (hv : (if mayNd h.mn h.tn n then (0 : Int) else 8) = v) :
    Calls Tryz.prog 17 #[.agg (scCells h).toArray, .agg (fN hn).toArray] w fun e w' => e = .returned (.int .i64 v) ∧ ∃ y, w' = plus w y := by
  subst hv
  obtain ⟨ga, gn, gc, ka, kn, kc, na, nn, nc, ma, mn, mc, ta, tn, tc, r0, r1⟩ := h
  exact lcheckNd_calls ga ka na ma ta gn gc kn kc nn nc mn mc tn tc r0 r1 hn n w hN s1

theorem great10_is {h : SH} {x : SX} {s : Sc} {w : World} (hG : GrIn w h.ga h.gn h.ka h.kn x.gr s.g) (hR : RestAt w h x s) {v : Bool} (hv : greatSc h x = v) :
    Calls Tryz.prog 13 #[.agg (scCells h).toArray] w fun e w' => e = .returned (.bool v) ∧ ∃ y, w' = plus w y := hv ▸ rgreat10_calls h x s w hG hR

theorem ltwin10_is {h : SH} {x : SX} {s : Sc} {w : World} (hA : ScAt w h x s) : Calls Tryz.prog 15 #[.agg (scCells h).toArray] w fun e w' => ∃ h' x', e = .returned (.agg (scCells h').toArray) ∧ (∃ y, w' = plus w y) ∧ ScOwn w w' h' x' s := twin10_calls h x s w hA

theorem GrIn.ex10 {w w' : World} {ao : Option Addr} {n : Nat} {ko : Option Addr} {kn : Nat} {hs : List RH} {g : Gr} (h : GrIn w ao n ko kn hs g) (hw : ∃ x, w' = plus w x) : GrIn w' ao n ko kn hs g := ⟨h.sl.ex hw, h.kh.ex hw, h.len, fun k hk => (h.row k hk).ex hw, h.n1, h.n2, h.n3, h.n4, h.n5⟩

end

section


def canB (n : Int) : Bool := decide (-1099511627776 ≤ n) && decide (n ≤ 1099511627776)

def rk (n : Int) : Nat := if 0 ≤ n then (2 * n).toNat else (-1 - 2 * n).toNat

def un (r : Nat) : Int := if r % 2 = 1 then -1 - ((r / 2 : Nat) : Int) else ((r / 2 : Nat) : Int)

def enc (r : Nat) : List Int := if r < 128 then [(r : Int)] else ((r % 128 + 128 : Nat) : Int) :: enc (r / 128)
termination_by r
decreasing_by omega

def bytesOf (n : Int) : List Int := enc (rk n)

def numL (n : Int) : List Int × Int := if canB n = true then (bytesOf n, 0) else ([], 2)

def rd : Nat → Nat → Nat → List Int → Int × Int × Int
  | 0, _, _, _ => (0, 0, 8)
  | _ + 1, _, _, [] => (0, 0, 8)
  | k + 1, i, x, b :: t =>
    if b < 128 then
      if (0 < i ∧ b = 0) ∨ 2199023255552 < x + b.toNat % 128 * 128 ^ i then (0, 0, 8) else (un (x + b.toNat % 128 * 128 ^ i), (i : Int) + 1, 0)
    else rd k (i + 1) (x + b.toNat % 128 * 128 ^ i) t

def readL (l : List Int) : Int × Int × Int := rd 6 0 0 l

def Byt (l : List Int) : Prop := ∀ x ∈ l, 0 ≤ x ∧ x < 256

def listL (l : List Int) : List Int × Int := if 65536 < l.length then ([], 4) else if l.all canB = true then (bytesOf l.length ++ l.flatMap bytesOf, 0) else ([], 2)

def getL : Nat → List Int → Option (List Int × Nat)
  | 0, _ => some ([], 0)
  | c + 1, l => if (readL l).2.2 = 0 then (getL c (l.drop (readL l).2.1.toNat)).map fun p => ((readL l).1 :: p.1, (readL l).2.1.toNat + p.2) else none

def getsL (acc : List Int) (w c : Nat) (l : List Int) : List Int × Int × Int := match getL c (l.drop w) with
  | some p => (acc ++ p.1, ((w + p.2 : Nat) : Int), 0)
  | none => ([], 0, 8)

def badL (l : List Int) (most : Int) : Bool := decide ((readL l).2.2 ≠ 0) || (decide ((readL l).1 < 0) || decide (most < (readL l).1))

def readsL (l : List Int) (most : Int) : List Int × Int × Int :=
  if most < 0 ∨ 65536 < most then ([], 0, 2) else if badL l most = true then ([], 0, 8) else getsL [] (readL l).2.1.toNat (readL l).1.toNat l

theorem Byt.drop {l : List Int} (h : Byt l) (k : Nat) : Byt (l.drop k) := fun x hx => h x (List.mem_of_mem_drop hx)

def pfx (l : List Int) (k : Nat) : List Int := bytesOf l.length ++ (l.take k).flatMap bytesOf

end

section


open Go.RowKit

def fU (n : Int) : List Value := [.int .u8 n]

section

variable {w : World} {g off n k : Nat}

end

theorem Byt.nth {l : List Int} {k : Nat} (h : Byt l) (hk : k < l.length) : 0 ≤ Go.Proofs.YtcekcihijdipoaaGreat.nth 0 l k ∧ Go.Proofs.YtcekcihijdipoaaGreat.nth 0 l k < 256 := h _ (nth_mem hk)

def bstr (l : List Int) : ByteArray := l.foldl (fun r n => r.push (UInt8.ofNat n.toNat)) ByteArray.empty

section

variable {H : Type} {enc : TypeId × Value → H} {P : Program} {W : World} {base : Nat} {spare : Nat → Bool} {held : Bool} {ao : Option Addr} {n : Nat} {e : TypeId}

end

section

variable {α : Type} {f : α → List Value} {P : Program} {w T : World} {ao ao2 : Option Addr} {n m cap c c2 : Nat} {l l2 : List α} {e t : TypeId} {b : Nat} {o : Oper} {a : Act} {K : Act → World → Prop} {Q : Exit → Act → World → Prop}

end

section

variable {P : Program} {w : World} {ao : Option Addr} {n cap : Nat} {l : List Int}

end

section

variable {H : Type} {enc : TypeId × Value → H} {P : Program} {W : World} {base : Nat} {spare : Nat → Bool} {held : Bool}

end

section

variable {α : Type} {f : α → List Value} {P : Program} {c : Nat} {e t : TypeId} {b : Nat}

end

end

section


open Go.RowKit Go.Deep Go.ChangeShapes Go.WideShapes Go.ChangeAt

set_option linter.unusedSimpArgs false

set_option linter.unusedVariables false

attribute [local go_sem] plus_size plus_drew dn_set dn_alloc dn_plus plus_dn cell_plus frozen_plus set_plus cell_alloc frozen_alloc set_alloc

section

variable {H : Type} {enc : TypeId × Value → H} {P : Program} {W : World} {base : Nat} {spare : Nat → Bool} {held : Bool}

theorem open_sln {c fuel : Nat} {t e : TypeId} {v : Value} {x : DataW H × List MemPlace} (ht : P.underlying t = some (.slice e)) (hc : P.cellsOf e = c) (hc0 : 0 < c)
    (h : DataW.trod enc P W base spare held fuel t [v] = some x) :
    ∃ (ao : Option Addr) (n cap : Nat), v = .slice ao n cap ∧ n ≤ 9223372036854775807 ∧ n ≤ cap ∧ (ao = none → n = 0 ∧ cap = 0) ∧ RowsAt W ao n c (fun cs => ∃ m y, DataW.trod enc P W base spare held m e cs = some y) := by
  obtain ⟨ao, n, cap, rfl, h1, h2, h3⟩ := open_sl ht hc hc0 h
  refine ⟨ao, n, cap, rfl, h1, ?_, h2, h3⟩
  rcases Go.Deep.open_slice ht h with ⟨h0, _⟩ | ⟨a, len, cap', m, n', D, Pl, h0, hb, hl, hm, hmm, _, hall⟩
  · simp only [List.cons.injEq, and_true, Value.slice.injEq] at h0
    omega
  · simp only [List.cons.injEq, and_true, Value.slice.injEq] at h0
    omega

end

section

variable {H : Type} {enc : TypeId × Value → H} {W : World} {base : Nat} {spare : Nat → Bool} {held : Bool}

theorem kind_node {j k : Nat} (h : [1, 0, 0, 0, 0, 0, 0, 0, 0, 0, 0, 0, 0, 3, 0, 0, 0, 3, 0, 1, 1, 1, 1, 1, 1, 1, 1, 1, 0, 1, 0, 2, 0][j]? = some k) : kindAt Tryz.prog 5 56 j = k := by
  have h1 : (List.range 33).map (kindAt Tryz.prog 5 56) = [1, 0, 0, 0, 0, 0, 0, 0, 0, 0, 0, 0, 0, 3, 0, 0, 0, 3, 0, 1, 1, 1, 1, 1, 1, 1, 1, 1, 0, 1, 0, 2, 0] := by kernel_rfl
  rw [← h1] at h
  have hj : j < 33 := by have := (List.getElem?_eq_some_iff.1 h).1; simpa using this
  simpa [hj] using h

set_option maxHeartbeats 4000000 in
set_option maxRecDepth 100000 in
theorem node_cells {fuel : Nat} {x : DataW H × List MemPlace} {cs : List Value} (hl : cs.length = 33) (h : DataW.trod enc Tryz.prog W base spare held fuel 56 cs = some x) : ∃ hh n, cs = fN hh ∧ NodeAt W hh n := by
  have hc := mix_cell 5 56 fuel cs x h
  obtain ⟨xs, m, _, _, _, hxl, hall⟩ := DataW.trod_struct Tryz.underlying56 h
  have k2 : Tryz.prog.cellsOf 46 = 1 := by kernel_rfl
  have k4 : Tryz.prog.cellsOf 47 = 1 := by kernel_rfl
  match cs, hl, hc, hall with
  | c0 :: c1 :: c2 :: c3 :: c4 :: c5 :: c6 :: c7 :: c8 :: c9 :: c10 :: c11 :: c12 :: c13 :: c14 :: c15 :: c16 :: c17 :: c18 :: c19 :: c20 :: c21 :: c22 :: c23 :: c24 :: c25 :: c26 :: c27 :: c28 :: c29 :: c30 :: c31 :: c32 :: [], _, hc, hall =>
    have q0 := hc 0 c0 rfl
    rw [kind_node (j := 0) (k := 1) rfl] at q0
    obtain ⟨n0, rfl, b0⟩ := q0
    have q1 := hc 1 c1 rfl
    rw [kind_node (j := 1) (k := 0) rfl] at q1
    obtain ⟨n1, rfl⟩ := q1
    have q2 := hc 2 c2 rfl
    rw [kind_node (j := 2) (k := 0) rfl] at q2
    obtain ⟨n2, rfl⟩ := q2
    have q3 := hc 3 c3 rfl
    rw [kind_node (j := 3) (k := 0) rfl] at q3
    obtain ⟨n3, rfl⟩ := q3
    have q4 := hc 4 c4 rfl
    rw [kind_node (j := 4) (k := 0) rfl] at q4
    obtain ⟨n4, rfl⟩ := q4
    have q5 := hc 5 c5 rfl
    rw [kind_node (j := 5) (k := 0) rfl] at q5
    obtain ⟨n5, rfl⟩ := q5
    have q6 := hc 6 c6 rfl
    rw [kind_node (j := 6) (k := 0) rfl] at q6
    obtain ⟨n6, rfl⟩ := q6
    have q7 := hc 7 c7 rfl
    rw [kind_node (j := 7) (k := 0) rfl] at q7
    obtain ⟨n7, rfl⟩ := q7
    have q8 := hc 8 c8 rfl
    rw [kind_node (j := 8) (k := 0) rfl] at q8
    obtain ⟨n8, rfl⟩ := q8
    have q9 := hc 9 c9 rfl
    rw [kind_node (j := 9) (k := 0) rfl] at q9
    obtain ⟨n9, rfl⟩ := q9
    have q10 := hc 10 c10 rfl
    rw [kind_node (j := 10) (k := 0) rfl] at q10
    obtain ⟨n10, rfl⟩ := q10
    have q11 := hc 11 c11 rfl
    rw [kind_node (j := 11) (k := 0) rfl] at q11
    obtain ⟨n11, rfl⟩ := q11
    have q12 := hc 12 c12 rfl
    rw [kind_node (j := 12) (k := 0) rfl] at q12
    obtain ⟨n12, rfl⟩ := q12
    have q14 := hc 14 c14 rfl
    rw [kind_node (j := 14) (k := 0) rfl] at q14
    obtain ⟨n14, rfl⟩ := q14
    have q15 := hc 15 c15 rfl
    rw [kind_node (j := 15) (k := 0) rfl] at q15
    obtain ⟨n15, rfl⟩ := q15
    have q16 := hc 16 c16 rfl
    rw [kind_node (j := 16) (k := 0) rfl] at q16
    obtain ⟨n16, rfl⟩ := q16
    have q18 := hc 18 c18 rfl
    rw [kind_node (j := 18) (k := 0) rfl] at q18
    obtain ⟨n18, rfl⟩ := q18
    have q19 := hc 19 c19 rfl
    rw [kind_node (j := 19) (k := 1) rfl] at q19
    obtain ⟨n19, rfl, b19⟩ := q19
    have q20 := hc 20 c20 rfl
    rw [kind_node (j := 20) (k := 1) rfl] at q20
    obtain ⟨n20, rfl, b20⟩ := q20
    have q21 := hc 21 c21 rfl
    rw [kind_node (j := 21) (k := 1) rfl] at q21
    obtain ⟨n21, rfl, b21⟩ := q21
    have q22 := hc 22 c22 rfl
    rw [kind_node (j := 22) (k := 1) rfl] at q22
    obtain ⟨n22, rfl, b22⟩ := q22
    have q23 := hc 23 c23 rfl
    rw [kind_node (j := 23) (k := 1) rfl] at q23
    obtain ⟨n23, rfl, b23⟩ := q23
    have q24 := hc 24 c24 rfl
    rw [kind_node (j := 24) (k := 1) rfl] at q24
    obtain ⟨n24, rfl, b24⟩ := q24
    have q25 := hc 25 c25 rfl
    rw [kind_node (j := 25) (k := 1) rfl] at q25
    obtain ⟨n25, rfl, b25⟩ := q25
    have q26 := hc 26 c26 rfl
    rw [kind_node (j := 26) (k := 1) rfl] at q26
    obtain ⟨n26, rfl, b26⟩ := q26
    have q27 := hc 27 c27 rfl
    rw [kind_node (j := 27) (k := 1) rfl] at q27
    obtain ⟨n27, rfl, b27⟩ := q27
    have q28 := hc 28 c28 rfl
    rw [kind_node (j := 28) (k := 0) rfl] at q28
    obtain ⟨n28, rfl⟩ := q28
    have q29 := hc 29 c29 rfl
    rw [kind_node (j := 29) (k := 1) rfl] at q29
    obtain ⟨n29, rfl, b29⟩ := q29
    have q30 := hc 30 c30 rfl
    rw [kind_node (j := 30) (k := 0) rfl] at q30
    obtain ⟨n30, rfl⟩ := q30
    have q31 := hc 31 c31 rfl
    rw [kind_node (j := 31) (k := 2) rfl] at q31
    obtain ⟨n31, rfl⟩ := q31
    have q32 := hc 32 c32 rfl
    rw [kind_node (j := 32) (k := 0) rfl] at q32
    obtain ⟨n32, rfl⟩ := q32
    have h2 := hall 2 _ rfl
    have h4 := hall 4 _ rfl
    rw [List.getElem?_eq_getElem (by simp at hxl; omega)] at h2 h4
    have h2' : DataW.trod enc Tryz.prog W base spare held m 46 [c13] = some (xs[2]'(by simp at hxl; omega)) := by simpa [k2] using h2
    have h4' : DataW.trod enc Tryz.prog W base spare held m 47 [c17] = some (xs[4]'(by simp at hxl; omega)) := by simpa [k4] using h4
    obtain ⟨n13, e13, _, w13⟩ := DataW.trod_int Tryz.underlying46 h2'
    obtain rfl : c13 = .int .u16 n13 := by simpa using e13
    obtain ⟨ao, n, cap, rfl, hn, hcap, hz, ho⟩ := open_sln (c := 1) Tryz.underlying47 (by kernel_rfl) (by decide) h4'
    obtain ⟨l, hl⟩ := lay_ints (by kernel_rfl) ho
    have b13 := bounds_u16 w13
    exact ⟨⟨⟨n0, ⟨⟨⟨n1, n2, n3⟩, ⟨n4, n5, n6⟩, ⟨n7, n8, n9⟩⟩, ⟨n10, n11, n12⟩⟩, n13, ⟨n14, n15, n16⟩, n18, ⟨n19, n20, n21, n22, n23, ⟨n24, n25, n26, n27, n28, n29, n30, n31, n32⟩⟩⟩, ao, n, cap⟩, ⟨⟨n0, ⟨⟨⟨n1, n2, n3⟩, ⟨n4, n5, n6⟩, ⟨n7, n8, n9⟩⟩, ⟨n10, n11, n12⟩⟩, n13, ⟨n14, n15, n16⟩, n18, ⟨n19, n20, n21, n22, n23, ⟨n24, n25, n26, n27, n28, n29, n30, n31, n32⟩⟩⟩, l⟩, rfl, rfl, ⟨b0, b13, ⟨b19, b20, b21, b22, b23, ⟨b24, b25, b26, b27, b29⟩⟩⟩, hn, hcap, hz, hl⟩

set_option maxRecDepth 100000 in
theorem lay_nodes {ao : Option Addr} {n : Nat} (h : RowsAt W ao n 33 (fun cs => ∃ m y, DataW.trod enc Tryz.prog W base spare held m 56 cs = some y)) : ∃ hs ns, Lay fN W ao n hs ∧ NodesAt W hs ns := by
  obtain ⟨l, hl, hR⟩ := lay_rows (f := fN) (R := fun hh => ∃ p, NodeAt W hh p) nh0 (by decide) fN_c h (by
    rintro cs hl ⟨m, y, hy⟩
    obtain ⟨hh, p, e1, hp⟩ := node_cells hl hy
    exact ⟨hh, e1, p, hp⟩)
  have hR' : ∀ k, ∃ p, k < n → NodeAt W (nth nh0 l k) p := by
    intro k
    by_cases hk : k < n
    · obtain ⟨p, hp⟩ := hR k hk
      exact ⟨p, fun _ => hp⟩
    · exact ⟨nd0, fun h => absurd h hk⟩
  refine ⟨l, (List.range n).map fun k => Classical.choose (hR' k), hl, ⟨by simp [hl.len], fun k hk => ?_⟩⟩
  rw [hl.len] at hk
  rw [nth_range hk]
  exact Classical.choose_spec (hR' k) hk

end

end

section


open Go.RowKit Go.ChangeShapes Go.WideShapes Go.ChangeAt Go.Deep

section

variable {H : Type} {enc : TypeId × Value → H} {P : Program} {W : World} {base : Nat} {spare : Nat → Bool} {held : Bool} {f0 f1 : Field} {t e tp ev eu : TypeId}

theorem prim_cells {fuel : Nat} {x : DataW H × List MemPlace} {c0 c1 : Value} (hs : P.underlying t = some (.struct #[f0, f1])) (hone : oneCellFields P #[f0, f1] = true) (hk : P.underlying f0.type = some (.int .u8)) (hi : P.underlying f1.type = some (.slice e))
    (hc : P.cellsOf e = 1) (hf : flatB P 4 e = true) (h : DataW.trod enc P W base spare held fuel t [c0, c1] = some x) : ∃ hh p, [c0, c1] = fP hh ∧ PrimAt W hh p := by
  obtain ⟨y0, y1, n, hx, _, h0, h1⟩ := trod_struct2 hs h
  obtain ⟨o0, k0⟩ := hone_of hone 0 f0 rfl
  obtain ⟨o1, k1⟩ := hone_of hone 1 f1 rfl
  have h0' : DataW.trod enc P W base spare held n f0.type [c0] = some y0 := by simpa [o0, k0] using h0
  have h1' : DataW.trod enc P W base spare held n f1.type [c1] = some y1 := by simpa [o1, k1] using h1
  obtain ⟨k, ek, _, wk⟩ := DataW.trod_int hk h0'
  obtain rfl : c0 = .int .u8 k := by simpa using ek
  obtain ⟨ao, m, cap, rfl, hn, hz, ho⟩ := open_sl hi hc (by decide) h1'
  obtain ⟨l, hl⟩ := lay_ints hf ho
  exact ⟨⟨k, ao, m, cap⟩, ⟨k, l⟩, rfl, rfl, (bounds_u8 wk).1, (bounds_u8 wk).2, hn, hz, hl⟩

theorem lay_prims {ao : Option Addr} {n : Nat} (hs : P.underlying t = some (.struct #[f0, f1])) (hone : oneCellFields P #[f0, f1] = true) (hk : P.underlying f0.type = some (.int .u8)) (hi : P.underlying f1.type = some (.slice e))
    (hc : P.cellsOf e = 1) (hf : flatB P 4 e = true) (h : RowsAt W ao n 2 (fun cs => ∃ m y, DataW.trod enc P W base spare held m t cs = some y)) : ∃ hs ps, Lay fP W ao n hs ∧ PrimsAt W hs ps := by
  obtain ⟨l, hl, hR⟩ := lay_rows (f := fP) (R := fun hh => ∃ p, PrimAt W hh p) dPH (by decide) fP_c h (by
    rintro cs hl ⟨m, y, hy⟩
    match cs, hl, hy with
    | [a, b], _, hy =>
      obtain ⟨hh, p, e1, hp⟩ := prim_cells hs hone hk hi hc hf hy
      exact ⟨hh, e1, p, hp⟩)
  have hR' : ∀ k, ∃ p, k < n → PrimAt W (nth dPH l k) p := by
    intro k
    by_cases hk : k < n
    · obtain ⟨p, hp⟩ := hR k hk
      exact ⟨p, fun _ => hp⟩
    · exact ⟨dPr, fun h => absurd h hk⟩
  refine ⟨l, (List.range n).map fun k => Classical.choose (hR' k), hl, ⟨by simp [hl.len], fun k hk => ?_⟩⟩
  rw [hl.len] at hk
  rw [nth_range hk]
  exact Classical.choose_spec (hR' k) hk

end

end

end Go.Proofs.YtcekcihijdipoaaGreat
