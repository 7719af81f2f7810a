/- A pack of texts: EdDoL, EdDo3. -/
import Derived.Deep.DeepCutAuto
import Derived.Test.YtcekcihijdipoaaGreatPT23
import Derived.Test.YtcekcihijdipoaaGreatPT21
import Derived.Test.YtcekcihijdipoaaGreatPT25
namespace Go.Proofs.YtcekcihijdipoaaGreat

section


open Go.RowKit Go.ChangeShapes Go.WideShapes Go.ChangeAt

set_option linter.unusedSimpArgs false

set_option linter.unusedVariables false

attribute [local go_sem] plus_size plus_drew dn_set dn_alloc dn_plus plus_dn cell_plus frozen_plus set_plus cell_alloc frozen_alloc set_alloc

structure HeldV (l : List Sl) (a0 a1 : Int) (v : Bool) : Prop where
  it : heldIn l a0 a1 = v

def l1S (i : Nat) : List Nat := match i with | 0 => [32] | 1 => [33] | 2 => [34] | 3 => [35] | 4 => [36] | 5 => [37] | 6 => [38] | 7 => [39] | 8 => [40] | 9 => [41] | 10 => [42] | 11 => [43] | 12 => [44] | 13 => [45] | 14 => [46, 45] | 15 => [47] | 16 => [48] | _ => []

def l1Φ (T : World) (p q : Nat) (h : SH) (x : SX) (s : Sc) (e : EH) (g' : Gr) (er : Int) (gq : Option Nat) (i : Nat) (t : Nat → Value) (D : Nat → Bool) (w' : World) : Prop := match i with
  | 0 => t 32 = .agg #[.int .i64 0, .int .i64 0, .int .i64 0]
  | 1 => t 33 = .pointer (some ⟨p, 0, none⟩)
  | 2 => t 34 = .pointer (some ⟨p, 0, none⟩)
  | 3 => t 35 = .pointer (some ⟨p, 0, none⟩)
  | 4 => t 36 = .pointer (some ⟨p, 0, none⟩)
  | 5 => t 37 = .pointer (some ⟨p, 0, none⟩)
  | 6 => t 38 = .agg #[.slice h.ga h.gn h.gc, .slice h.ka h.kn h.kc] ∧ D 6 = true
  | 7 => t 39 = .pointer (some ⟨q, 1, none⟩)
  | 8 => t 40 = .agg #[.int .i64 e.h0, .int .i64 e.h1]
  | 9 => t 41 = .pointer (some ⟨q, 3, none⟩)
  | 10 => t 42 = .agg #[.int .i64 e.c0, .int .i64 e.c1]
  | 11 => t 43 = .pointer (some ⟨q, 5, none⟩)
  | 12 => t 44 = .int .i64 e.at'
  | 13 => ∃ a c k kc hs, t 45 = .tuple #[.agg #[.slice a g'.sl.length c, .slice k g'.ks.length kc], .int .i64 er] ∧ D 13 = true ∧ (D 16 = false → GrOwn T w' a g'.sl.length c k g'.ks.length kc hs g')
  | 14 => ∃ v, t 45 = .tuple #[v, .int .i64 er] ∧ t 46 = v
  | 15 => t 47 = .int .i64 er
  | 16 => t 48 = .int .i64 er ∧ D 16 = true ∧ (∃ y, w' = plus T y) ∧ (er = 0 → ∃ h' x', UwI T w' p h' x' ⟨g', s.ns, s.ms, s.ts, s.root⟩)
  | _ => True

theorem l1Φ_mono (T : World) (p q : Nat) (h : SH) (x : SX) (s : Sc) (e : EH) (g' : Gr) (er : Int) (gq : Option Nat) : ∀ i t t' D w D' w', l1Φ T p q h x s e g' er gq i t D w → (∀ s ∈ l1S i, t' s = t s) → TurnK 16 [6, 13] gq D w D' w' → l1Φ T p q h x s e g' er gq i t' D' w' := by
  intro i t t' D w D' w' h_ hs' ht
  match i with
  | 0 => exact (hs' 32 (by decide)).trans h_
  | 1 => exact (hs' 33 (by decide)).trans h_
  | 2 => exact (hs' 34 (by decide)).trans h_
  | 3 => exact (hs' 35 (by decide)).trans h_
  | 4 => exact (hs' 36 (by decide)).trans h_
  | 5 => exact (hs' 37 (by decide)).trans h_
  | 6 => exact ⟨(hs' 38 (by decide)).trans h_.1, ht.m 6 h_.2⟩
  | 7 => exact (hs' 39 (by decide)).trans h_
  | 8 => exact (hs' 40 (by decide)).trans h_
  | 9 => exact (hs' 41 (by decide)).trans h_
  | 10 => exact (hs' 42 (by decide)).trans h_
  | 11 => exact (hs' 43 (by decide)).trans h_
  | 12 => exact (hs' 44 (by decide)).trans h_
  | 13 => obtain ⟨a, c, k, kc, hs, e1, e2, e3⟩ := h_; exact ⟨a, c, k, kc, hs, (hs' 45 (by decide)).trans e1, ht.m 13 e2, fun q => by have q2 : D 16 = false := (by cases e9 : D 16; rfl; rw [ht.m 16 e9] at q; cases q); obtain ⟨x, hx⟩ := below_plus' ht.t (q2.trans q.symm); exact (e3 q2).ex ⟨x, hx⟩⟩
  | 14 => obtain ⟨v, e1, e2⟩ := h_; exact ⟨v, (hs' 45 (by decide)).trans e1, (hs' 46 (by decide)).trans e2⟩
  | 15 => exact (hs' 47 (by decide)).trans h_
  | 16 => obtain ⟨e1, e2, e3, e4⟩ := h_; exact ⟨(hs' 48 (by decide)).trans e1, ht.m 16 e2, ex_trans e3 (tk_still ht e2), fun q => by obtain ⟨a, b, c⟩ := e4 q; exact ⟨a, b, c.on (tk_still ht e2)⟩⟩
  | i + 17 => trivial

set_option maxRecDepth 100000 in
set_option maxHeartbeats 8000000 in
theorem link_calls {T w : World} {p : Nat} {h : SH} {x : SX} {s : Sc} (I : UwI T w p h x s) (hm : maySc s = true) (e : EH) (n : Nd) (m : Ms) (t : Tp) (hk : e.kind = 3) :
    Calls Tryz.prog 65 #[.pointer (some ⟨p, 0, none⟩), vE e] w fun r w' => RetM10 T p (edSc s (toEd e n m t)) 0 0 0 (edErr s (toEd e n m t)) r w' := by
  have hA := I.own.at (few_may hm)
  have hG := hA.g
  obtain ⟨hgk, hnl, _, _, _⟩ := may_parts hm
  obtain ⟨hok, hgl, _, _⟩ := gr_parts hgk
  have hs : edSc s (toEd e n m t) = ⟨linkG s.g (e.h0, e.h1) (e.c0, e.c1) e.at', s.ns, s.ms, s.ts, s.root⟩ := by simp [edSc, toEd, hk]
  have i1 : (fE e)[1]? = some (.int .i64 e.h0) := rfl
  have i2 : (fE e)[2]? = some (.int .i64 e.h1) := rfl
  have i3 : (fE e)[3]? = some (.int .i64 e.c0) := rfl
  have i4 : (fE e)[4]? = some (.int .i64 e.c1) := rfl
  have i5 : (fE e)[5]? = some (.int .i64 e.at') := rfl
  obtain ⟨b1, hb1⟩ : ∃ b, heldIn s.g.sl e.h0 e.h1 = b := ⟨_, rfl⟩
  obtain ⟨b2, hb2⟩ : ∃ b, heldIn s.g.sl e.c0 e.c1 = b := ⟨_, rfl⟩
  obtain ⟨kd, hkd⟩ : ∃ k, (nth nd0 s.ns e.h0.toNat).f.kind = k := ⟨_, rfl⟩
  obtain ⟨er, her⟩ : ∃ v, linkErr s.g (e.h0, e.h1) (e.c0, e.c1) e.at' = v := ⟨_, rfl⟩
  obtain ⟨gr, hgr⟩ : ∃ v, linkRes s.g (e.h0, e.h1) (e.c0, e.c1) e.at' = v := ⟨_, rfl⟩
  have hres : er = 0 → gr = linkG s.g (e.h0, e.h1) (e.c0, e.c1) e.at' := fun e0 => by rw [← hgr, linkRes, her, if_pos e0]
  have he : edErr s (toEd e n m t) = if b1 = true ∧ b2 = true then (if kd = 5 then 100 else er) else 50 := by simp [edErr, toEd, hk, hb1, hb2, hkd, her]
  obtain ⟨E, hE⟩ : ∃ E : Int, (if b1 = true ∧ b2 = true then (if kd = 5 then 100 else er) else 50) = E := ⟨_, rfl⟩
  rw [hE] at he
  rw [he, hs]
  replace hE := Hush9.mk hE
  have hslot : b1 = true → ∃ k : Nat, e.h0 = k ∧ k < s.ns.length := fun q => by have := held_lt (hb1.trans q); exact ⟨e.h0.toNat, by omega, by omega⟩
  have hns := hA.r.ns
  have hnl2 := hA.r.nl
  have hnn := hA.nn
  have V1 : HeldV s.g.sl e.h0 e.h1 b1 := ⟨hb1⟩
  have V2 : HeldV s.g.sl e.c0 e.c1 b2 := ⟨hb2⟩
  replace hslot := Hush9.mk hslot
  replace hkd := Hush9.mk hkd
  clear he hs hb1 hb2 hA hm hnl hgl hgk
  show Calls Tryz.prog 65 #[.pointer (some ⟨p, 0, none⟩), .agg (fE e).toArray] w _
  obtain ⟨ce, hce⟩ : ∃ c, fE e = c := ⟨_, rfl⟩
  rw [hce] at i1 i2 i3 i4 i5 ⊢
  obtain ⟨q, hq⟩ : ∃ q, w.heap.size = q := ⟨_, rfl⟩
  have lp := blk_lt I.bx
  go_enter Tryz.func65, Tryz.ntmps65
  go_upto_region 1 with fail
  refine name_w (fun w' => (∃ y, w' = plus w y) ∧ w'.heap[q]? = some (.cells ce.toArray 66) ∧ w'.heap[q + 1]? = some (.cells #[.int .i64 0, .int .i64 0, .int .i64 0] 36)) ⟨sk9, hq ▸ blk_old (blk_new2 _ _), by rw [← hq, ← size_alloc w]; exact blk_new2 _ _⟩ ?_
  try simp only [hq]
  rintro w0 ⟨x1, k1, k2⟩
  have I0 := I.on x1
  have e1 := cell_of k1 i1
  have e2 := cell_of k1 i2
  have e3 := cell_of k1 i3
  have e4 := cell_of k1 i4
  have l1 := blk_lt k1
  cases b1
  · obtain rfl : E = 50 := by rw [← hE.it]; simp
    go_wp2_with (first | (go_at_call 119; refine (holds_calls (I0.on sk9) hok _ _ (HeldV.it (by first | exact V1 | exact V2))).mono ?_; rintro e w' ⟨rfl, nx, rfl⟩) | (refine wpList_store_box rfl 36 (Operand.tmp 4) _ rfl (q + 1) [.int .i64 0, .int .i64 0, .int .i64 0] rfl rfl _ _ (blk_ex sk9 k2) (by kernel_rfl) rfl (by intro v hv; simp at hv; subst hv; rfl) ?_))
    exact bodyPost_ret (results_two Tryz.results65 _ _ (q + 1) 36 #[.int .i64 0, .int .i64 0, .int .i64 0] _ _ (.int .i64 50) rfl rfl (blk_row_eq (blk_ex sk9 k2)) Tryz.underlying36 rfl (by kernel_rfl)) rfl ⟨rfl, ex_row_new (ex_trans I.ex (ex_trans x1 sk9)) (by have := size_ex I.ex; omega), fun e0 => by cases e0⟩
  cases b2
  · obtain rfl : E = 50 := by rw [← hE.it]; simp
    go_wp2_with (first | (go_at_call 119; refine (holds_calls (I0.on sk9) hok _ _ (HeldV.it (by first | exact V1 | exact V2))).mono ?_; rintro e w' ⟨rfl, nx, rfl⟩) | (refine wpList_store_box rfl 36 (Operand.tmp 4) _ rfl (q + 1) [.int .i64 0, .int .i64 0, .int .i64 0] rfl rfl _ _ (blk_ex sk9 k2) (by kernel_rfl) rfl (by intro v hv; simp at hv; subst hv; rfl) ?_))
    exact bodyPost_ret (results_two Tryz.results65 _ _ (q + 1) 36 #[.int .i64 0, .int .i64 0, .int .i64 0] _ _ (.int .i64 50) rfl rfl (blk_row_eq (blk_ex sk9 k2)) Tryz.underlying36 rfl (by kernel_rfl)) rfl ⟨rfl, ex_row_new (ex_trans I.ex (ex_trans x1 sk9)) (by have := size_ex I.ex; omega), fun e0 => by cases e0⟩
  go_upto_region 3 with (first | (go_at_call 119; refine (holds_calls (I0.on sk9) hok _ _ (HeldV.it (by first | exact V1 | exact V2))).mono ?_; rintro e w' ⟨rfl, nx, rfl⟩) | (refine wpList_store_box rfl 36 (Operand.tmp 4) _ rfl (q + 1) [.int .i64 0, .int .i64 0, .int .i64 0] rfl rfl _ _ (blk_ex sk9 k2) (by kernel_rfl) rfl (by intro v hv; simp at hv; subst hv; rfl) ?_))
  refine name_w (fun w' => ∃ y, w' = plus w0 y) sk9 ?_
  rintro w1 x01
  obtain ⟨k, hk0, hkn⟩ := hslot.it (by first | rfl | trivial)
  have x1' := ex_trans x1 x01
  have k1' := blk_ex x01 k1
  have k2' := blk_ex x01 k2
  have I1 := I.on x1'
  clear e1 e2 e3 e4 l1 k1 k2 I0 V1 V2 hslot
  obtain ⟨k1, k2⟩ := And.intro k1' k2'
  clear k1' k2'
  have k0 := I1.bx
  have c0 := cell_of (i := 0) k0 rfl
  have c1 := cell_of (i := 1) k0 rfl
  have c2 := cell_of (i := 2) k0 rfl
  have e1 := cell_of k1 i1
  rw [hk0] at e1
  have hnk : k < h.nn := by omega
  have ik : (k : Int) < (h.nn : Int) := by omega
  obtain ⟨gN, oN, hna, hgN, hcN⟩ := (hnl2.ex x1').some (by omega)
  rw [hna] at c2
  have kc := lay_part (d := nh0) hnn.2 fN_c hcN hnk 0 _ rfl
  rw [Nat.add_zero] at kc
  have a1 := hns.one k (by omega)
  have hkd2 : (nth nh0 x.nh k).f.kind = kd := by rw [a1.f, ← hkd.it, hk0, Int.toNat_natCast]
  rw [hkd2] at kc
  have lq := blk_lt k1
  have hqp : q ≠ p := by omega
  have hqp1 : q + 1 ≠ p := by omega
  have hG1 := hG.ex x1'
  refine region_plus (by kernel_rfl) (by kernel_rfl) ?_
  (repeat (go_big_quiet_step (fail)))
  refine wpQuiet_nil ?_
  rintro _ ⟨x2, rfl⟩
  clear kc hcN a1 hkd hkd2 hns hnl2
  by_cases h5 : kd = 5
  · subst h5
    obtain rfl : E = 100 := by rw [← hE.it]; simp
    go_wp2_with (refine wpList_store_box rfl 36 (Operand.tmp 4) _ rfl (q + 1) [.int .i64 0, .int .i64 0, .int .i64 0] rfl rfl _ _ (blk_ex sk9 k2) (by kernel_rfl) rfl (by intro v hv; simp at hv; subst hv; rfl) ?_)
    exact bodyPost_ret (results_two Tryz.results65 _ _ (q + 1) 36 #[.int .i64 0, .int .i64 0, .int .i64 0] _ _ (.int .i64 100) rfl rfl (blk_row_eq (blk_ex sk9 k2)) Tryz.underlying36 rfl (by kernel_rfl)) rfl ⟨rfl, ex_row_new (ex_trans I.ex (ex_trans x1' sk9)) (by have := size_ex I.ex; omega), fun e0 => by cases e0⟩
  have d5 : (kd == 5) = false := by rw [beq_eq_false_iff_ne]; exact h5
  obtain rfl : E = er := by rw [← hE.it]; simp [h5]
  clear hE
  go_upto_region 5 with fail
  refine name_w (fun w' => ∃ y, w' = plus w1 y) sk9 ?_
  rintro w2 x02
  have x1 := ex_trans x1' x02
  have k1_ := blk_ex x02 k1
  have k2_ := blk_ex x02 k2
  have I2 := I.on x1
  have hG2 := hG.ex x1
  clear I1 hG1 k1 k2 k0 c0 c1 c2 e1 lq x1'
  obtain ⟨k1, k2⟩ := And.intro k1_ k2_
  clear k1_ k2_
  have I1 := I2
  have hG1 := hG2
  clear I2 hG2
  have k0 := I1.bx
  have c0 := cell_of (i := 0) k0 rfl
  have c1 := cell_of (i := 1) k0 rfl
  refine region_relD 17 l1S (l1Φ T p q h x s e gr E (some p)) (TurnK 16 [6, 13] (some p)) tk_trans (tk_draw _) (by kernel_rfl) (by kernel_rfl) (by decide) (l1Φ_mono T p q h x s e gr E (some p)) ?steps ?fin
  case steps =>
    refine ⟨?_, ?_, ?_, ?_, ?_, ?_, ?_, ?_, ?_, ?_, ?_, ?_, ?_, ?_, ?_, ?_, ?_, trivial⟩
    · intro a D w' hg hfree hdeep hD
      unfold Oper.wp
      simp [go_sem, execOp, Act.eval, ↓IntWalk.iteOmega]
      exact ⟨_, rfl, tk_grow (by decide) (ex_refl _), by simp [l1Φ, upd]⟩
    · intro a D w' hg hfree hdeep hD
      have f0_ := hfree 0 (by kernel_rfl)
      simp only [l1Φ, got] at f0_
      simp [go_sem] at f0_
      unfold Oper.wp
      simp [go_sem, execOp, Act.eval, ↓IntWalk.iteOmega, f0_]
      exact ⟨_, rfl, tk_grow (by decide) (ex_refl _), by simp [l1Φ, upd]⟩
    · intro a D w' hg hfree hdeep hD
      have f0_ := hfree 0 (by kernel_rfl)
      simp only [l1Φ, got] at f0_
      simp [go_sem] at f0_
      unfold Oper.wp
      simp [go_sem, execOp, Act.eval, ↓IntWalk.iteOmega, f0_]
      exact ⟨_, rfl, tk_grow (by decide) (ex_refl _), by simp [l1Φ, upd]⟩
    · intro a D w' hg hfree hdeep hD
      have d2 := hdeep 2 (by kernel_rfl)
      simp only [l1Φ, got] at d2
      simp [go_sem] at d2
      unfold Oper.wp
      simp [go_sem, execOp, Act.eval, ↓IntWalk.iteOmega, d2]
      exact ⟨_, rfl, tk_grow (by decide) (ex_refl _), by simp [l1Φ, upd]⟩
    · intro a D w' hg hfree hdeep hD
      have d3 := hdeep 3 (by kernel_rfl)
      simp only [l1Φ, got] at d3
      simp [go_sem] at d3
      unfold Oper.wp
      simp [go_sem, execOp, Act.eval, ↓IntWalk.iteOmega, d3]
      exact ⟨_, rfl, tk_grow (by decide) (ex_refl _), by simp [l1Φ, upd]⟩
    · intro a D w' hg hfree hdeep hD
      have d4 := hdeep 4 (by kernel_rfl)
      simp only [l1Φ, got] at d4
      simp [go_sem] at d4
      unfold Oper.wp
      simp [go_sem, execOp, Act.eval, ↓IntWalk.iteOmega, d4]
      exact ⟨_, rfl, tk_grow (by decide) (ex_refl _), by simp [l1Φ, upd]⟩
    · intro a D w' hg hfree hdeep hD
      have d5 := hdeep 5 (by kernel_rfl)
      simp only [l1Φ, got] at d5
      simp [go_sem] at d5
      obtain ⟨x9, rfl⟩ := tk_ahead hg (r := 6) (by decide) hD
      have cc0 := cell_ex ⟨x9, rfl⟩ c0
      have cc1 := cell_ex ⟨x9, rfl⟩ c1
      unfold Oper.wp
      simp [go_sem, execOp, Act.eval, ↓IntWalk.iteOmega, d5, cc0, cc1]
      exact ⟨_, rfl, tk_grow (by decide) (ex_refl _), by simp [l1Φ, upd], also_self' _⟩
    · intro a D w' hg hfree hdeep hD
      have f3_ := hfree 3 (by kernel_rfl)
      simp only [l1Φ, got] at f3_
      simp [go_sem] at f3_
      unfold Oper.wp
      simp [go_sem, execOp, Act.eval, ↓IntWalk.iteOmega, f3_]
      exact ⟨_, rfl, tk_grow (by decide) (ex_refl _), by simp [l1Φ, upd]⟩
    · intro a D w' hg hfree hdeep hD
      have d7 := hdeep 7 (by kernel_rfl)
      simp only [l1Φ, got] at d7
      simp [go_sem] at d7
      have kq := turn_blk hg.t (fun e => hqp (by cases e; rfl)) k1
      have ci1 := cell_of kq i1
      have ci2 := cell_of kq i2
      unfold Oper.wp
      simp [go_sem, execOp, Act.eval, ↓IntWalk.iteOmega, d7, ci1, ci2]
      exact ⟨_, rfl, tk_grow (by decide) (ex_refl _), by simp [l1Φ, upd]⟩
    · intro a D w' hg hfree hdeep hD
      have f3_ := hfree 3 (by kernel_rfl)
      simp only [l1Φ, got] at f3_
      simp [go_sem] at f3_
      unfold Oper.wp
      simp [go_sem, execOp, Act.eval, ↓IntWalk.iteOmega, f3_]
      exact ⟨_, rfl, tk_grow (by decide) (ex_refl _), by simp [l1Φ, upd]⟩
    · intro a D w' hg hfree hdeep hD
      have d9 := hdeep 9 (by kernel_rfl)
      simp only [l1Φ, got] at d9
      simp [go_sem] at d9
      have kq := turn_blk hg.t (fun e => hqp (by cases e; rfl)) k1
      have ci3 := cell_of kq i3
      have ci4 := cell_of kq i4
      unfold Oper.wp
      simp [go_sem, execOp, Act.eval, ↓IntWalk.iteOmega, d9, ci3, ci4]
      exact ⟨_, rfl, tk_grow (by decide) (ex_refl _), by simp [l1Φ, upd]⟩
    · intro a D w' hg hfree hdeep hD
      have f3_ := hfree 3 (by kernel_rfl)
      simp only [l1Φ, got] at f3_
      simp [go_sem] at f3_
      unfold Oper.wp
      simp [go_sem, execOp, Act.eval, ↓IntWalk.iteOmega, f3_]
      exact ⟨_, rfl, tk_grow (by decide) (ex_refl _), by simp [l1Φ, upd]⟩
    · intro a D w' hg hfree hdeep hD
      have d11 := hdeep 11 (by kernel_rfl)
      simp only [l1Φ, got] at d11
      simp [go_sem] at d11
      have kq := turn_blk hg.t (fun e => hqp (by cases e; rfl)) k1
      have ci5 := cell_of kq i5
      unfold Oper.wp
      simp [go_sem, execOp, Act.eval, ↓IntWalk.iteOmega, d11, ci5]
      exact ⟨_, rfl, tk_grow (by decide) (ex_refl _), by simp [l1Φ, upd]⟩
    · intro a D w' hg hfree hdeep hD
      obtain ⟨e12, D6⟩ := hdeep 6 (by kernel_rfl)
      have e14 := hdeep 8 (by kernel_rfl)
      have e15 := hdeep 10 (by kernel_rfl)
      have e16 := hdeep 12 (by kernel_rfl)
      simp only [l1Φ, got] at e12 e14 e15 e16
      simp at e12 e14 e15 e16
      obtain ⟨x9, rfl⟩ := tk_ahead hg (r := 13) (by decide) hD
      have hU := nlink_calls h.ga h.gn h.gc h.ka h.kn h.kc x.gr s.g e.h0 e.h1 e.c0 e.c1 e.at' (plus w2 x9) (hG1.ex sk9)
      rw [hgr, her] at hU
      unfold Oper.wp
      simp [go_sem, execOp, Act.eval, ↓IntWalk.iteOmega, e12, e14, e15, e16]
      refine hU.mono ?_
      rintro r w4 ⟨a2, c2, k2_, kc2, hs2, rfl, hw4, o2⟩
      exact ⟨_, rfl, tk_grow (by decide) hw4, a2, c2, k2_, kc2, hs2, by simp [upd], also_self' _, fun _ => o2.base (size_ex (ex_trans I1.ex ⟨x9, rfl⟩))⟩
    · intro a D w' hg hfree hdeep hD
      obtain ⟨a2, c2, k2_, kc2, hs2, e17, _, _⟩ := hdeep 13 (by kernel_rfl)
      have g17 := e17
      simp only [got] at g17
      simp at g17
      unfold Oper.wp
      simp [go_sem, execOp, Act.eval, ↓IntWalk.iteOmega, g17]
      exact ⟨_, rfl, tk_grow (by decide) (ex_refl _), .agg #[.slice a2 gr.sl.length c2, .slice k2_ gr.ks.length kc2], by simp [upd]; exact e17, by simp [upd]⟩
    · intro a D w' hg hfree hdeep hD
      obtain ⟨a2, c2, k2_, kc2, hs2, e17, _, _⟩ := hdeep 13 (by kernel_rfl)
      have g17 := e17
      simp only [got] at g17
      simp at g17
      unfold Oper.wp
      simp [go_sem, execOp, Act.eval, ↓IntWalk.iteOmega, g17]
      exact ⟨_, rfl, tk_grow (by decide) (ex_refl _), by simp [l1Φ, upd]⟩
    · intro a D w' hg hfree hdeep hD
      have e7 := hdeep 1 (by kernel_rfl)
      obtain ⟨a2, c2, k2_, kc2, hs2, e17, D13, o2⟩ := hdeep 13 (by kernel_rfl)
      obtain ⟨v, e17', e18⟩ := hdeep 14 (by kernel_rfl)
      have e19 := hdeep 15 (by kernel_rfl)
      obtain ⟨_, D6⟩ := hdeep 6 (by kernel_rfl)
      rw [e17] at e17'
      cases e17'
      have o3 := o2 hD
      obtain ⟨x9, rfl⟩ := turn_ahead hg.t hD
      have I2 := I1.on ⟨x9, rfl⟩
      simp only [l1Φ, got] at e7 e18 e19
      simp at e7 e18 e19
      unfold Oper.wp
      simp [go_sem, execOp, Act.eval, ↓IntWalk.iteOmega, e7, e18, e19]
      refine (take_calls I2 _ _ _ _ _ _ hs2 gr o3 E).mono ?_
      rintro r w4 ⟨rfl, hgw, hz, hnz⟩
      refine ⟨_, rfl, tk_do hgw hD (fun r hr => ?_), by simp [upd], also_self' _, ?_, fun e0 => ⟨_, _, hz e0⟩⟩
      · simp only [List.mem_cons, List.not_mem_nil, or_false] at hr
        rcases hr with rfl | rfl
        · exact D6
        · exact D13
      · by_cases e0 : E = 0
        · exact (hz e0).ex
        · exact ex_trans I2.ex (hnz e0)
  case fin =>
    rintro t D w9 hDa hg hΦ
    have r0 := hΦ 0 (by decide)
    obtain ⟨e20, _, hxT, hu⟩ := hΦ 16 (by decide)
    simp only [l1Φ] at r0
    have k3 := turn_blk hg.t (fun e => hqp1 (by cases e; rfl)) k2
    simp only [putAll, List.take_succ_cons, List.take_zero, List.drop_succ_cons, List.drop_zero, r0, e20]
    simp only [Act.put]
    simp only [List.setIfInBounds_toArray, List.set_cons_succ, List.set_cons_zero]
    clear hΦ r0 e20
    have hTq : T.heap.size ≤ q + 1 := by have := size_ex I.ex; omega
    go_wp2_with (refine wpList_store_box rfl 36 (Operand.tmp 4) _ rfl (q + 1) [.int .i64 0, .int .i64 0, .int .i64 0] rfl rfl _ _ k3 (by kernel_rfl) rfl (by intro v hv; simp at hv; subst hv; rfl) ?_)
    exact bodyPost_ret (results_two Tryz.results65 _ _ (q + 1) 36 #[.int .i64 0, .int .i64 0, .int .i64 0] _ _ (.int .i64 E) rfl rfl (blk_row_eq k3) Tryz.underlying36 rfl (by kernel_rfl)) rfl ⟨rfl, ex_row_new hxT hTq, fun e0 => by obtain ⟨h', x', U⟩ := hu e0; rw [hres e0] at U; exact ⟨h', x', U.took k3 hTq⟩⟩

end

section


open Go.RowKit Go.ChangeShapes Go.WideShapes Go.ChangeAt

set_option linter.unusedSimpArgs false

set_option linter.unusedVariables false

attribute [local go_sem] plus_size plus_drew dn_set dn_alloc dn_plus plus_dn cell_plus frozen_plus set_plus cell_alloc frozen_alloc set_alloc

def sh0 : SH := ⟨none, 0, 0, none, 0, 0, none, 0, 0, none, 0, 0, none, 0, 0, 0, 0⟩

def sx0 : SX := ⟨[], [], [], [], []⟩

theorem sc_own0 {T w : World} : ScOwn T w sh0 sx0 sc0 := ⟨own_zero, own_nil, rfl, fun k hk => by simp [sx0] at hk, own_nil, rfl, fun k hk => by simp [sx0] at hk, own_nil, rfl, fun k hk => by simp [sx0] at hk, rfl, rfl⟩

def tookV (s : Sc) (d : Ed) : Value := .agg #[.int .i64 (tookH s d).1, .int .i64 (tookH s d).2, .int .i64 (tookN s d)]

def RetDo (w : World) (s : Sc) (d : Ed) (e : Ending) (w' : World) : Prop := ∃ h' x', e = .returned (.tuple #[.agg (scCells h').toArray, tookV s d, .int .i64 (doErr s d)]) ∧ (∃ y, w' = plus w y) ∧ ScOwn w w' h' x' (doSc s d)

theorem results_three {P : Program} {fn : Func} {p q r : Tmp} {ty ty2 : TypeId} (h : fn.results = #[.cell p ty, .cell q ty2, .tmp r]) (tmps : Array Value) (w : World) (g g2 : Nat) (t t2 : TypeId) (cs cs2 : Array Value) (d d2 : TypeDesc) (v : Value)
    (hp : tmps.getD p undef = .pointer (some ⟨g, 0, none⟩)) (hq : tmps.getD q undef = .pointer (some ⟨g2, 0, none⟩)) (hr : tmps.getD r undef = v) (hg : w.heap[g]? = some (.cells cs t)) (hg2 : w.heap[g2]? = some (.cells cs2 t2))
    (hu : P.underlying ty = some d) (hd : (match d with | .struct _ | .array _ _ => true | _ => false) = true) (hi : (P.info? ty).map (·.size) = some cs.size)
    (hu2 : P.underlying ty2 = some d2) (hd2 : (match d2 with | .struct _ | .array _ _ => true | _ => false) = true) (hi2 : (P.info? ty2).map (·.size) = some cs2.size) :
    (results fn tmps).run P w = .ok (.tuple #[.agg cs, .agg cs2, v]) w := by
  have hp' : tmps[p]?.getD undef = .pointer (some ⟨g, 0, none⟩) := by simpa using hp
  have hq' : tmps[q]?.getD undef = .pointer (some ⟨g2, 0, none⟩) := by simpa using hq
  have hr' : tmps[r]?.getD undef = v := by simpa using hr
  simp [results, h, hp', hq', hr', asAddr, run_loadVar_row w g t ty cs _ d hg hu hd hi, run_loadVar_row w g2 t2 ty2 cs2 _ d2 hg2 hu2 hd2 hi2]

theorem do_refused {s : Sc} {d : Ed} {er : Int} (h : doErr s d = er) (h0 : er ≠ 0) : doSc s d = sc0 ∧ tookH s d = (0, 0) ∧ tookN s d = 0 := by
  subst h
  exact ⟨by rw [doSc, if_neg h0], by rw [tookH, if_neg (fun e => h0 e.1)], by rw [tookN, if_neg h0]⟩

theorem ret_refused {w w' : World} {s : Sc} {d : Ed} {er : Int} (h : doErr s d = er) (h0 : er ≠ 0) (hw : ∃ y, w' = plus w y) : RetDo w s d (.returned (.tuple #[.agg (scCells sh0).toArray, .agg #[.int .i64 0, .int .i64 0, .int .i64 0], .int .i64 er])) w' := by
  obtain ⟨h1, h2, h3⟩ := do_refused h h0
  exact ⟨sh0, sx0, by rw [tookV, h2, h3, h], hw, by rw [h1]; exact sc_own0⟩

theorem bad_kind {s : Sc} {d : Ed} (h : d.kind < 1 ∨ 8 < d.kind) : edErr s d = 2 := by
  unfold edErr
  rw [if_neg (by omega), if_neg (by omega), if_neg (by omega), if_neg (by omega), if_neg (by omega), if_neg (by omega), if_neg (by omega), if_neg (by omega)]

theorem look_bad {k : Int} (h : k < 1 ∨ 8 < k) : lookF doersL k = .tuple #[.nilFunc, .bool false] := by
  have : getF doersL k = none := by
    simp only [doersL, getF]
    rw [if_neg (by omega), if_neg (by omega), if_neg (by omega), if_neg (by omega), if_neg (by omega), if_neg (by omega), if_neg (by omega), if_neg (by omega)]
  rw [lookF, this]

def ldS (i : Nat) : List Nat := match i with | 0 => [21] | 1 => [22] | 2 => [23] | 3 => [24] | 4 => [20] | 5 => [25] | 6 => [26] | 7 => [8] | _ => []

def ldΦ (q : Nat) (kd : Int) (fv : Value) (ok : Bool) (i : Nat) (t : Nat → Value) (w' : World) : Prop := match i with
  | 0 => ∃ b, t 21 = .map (some b) ∧ (∃ V, FMap V w' b doersL)
  | 1 => t 22 = .pointer (some ⟨q, 0, none⟩)
  | 2 => t 23 = .int .u8 kd
  | 3 => t 24 = .tuple #[fv, .bool ok]
  | 4 => t 20 = .tuple #[fv, .bool ok]
  | 5 => t 25 = fv
  | 6 => t 26 = .bool ok
  | 7 => t 8 = fv
  | _ => True

theorem ldΦ_mono (q : Nat) (kd : Int) (fv : Value) (ok : Bool) : ∀ i t t' w' x, ldΦ q kd fv ok i t w' → (∀ s ∈ ldS i, t' s = t s) → ldΦ q kd fv ok i t' (plus w' x) := by
  intro i t t' w' x h hs'
  match i with
  | 0 => obtain ⟨b, e1, V, e2⟩ := h; exact ⟨b, (hs' 21 (by decide)).trans e1, V, e2.on ⟨x, rfl⟩⟩
  | 1 => exact (hs' 22 (by decide)).trans h
  | 2 => exact (hs' 23 (by decide)).trans h
  | 3 => exact (hs' 24 (by decide)).trans h
  | 4 => exact (hs' 20 (by decide)).trans h
  | 5 => exact (hs' 25 (by decide)).trans h
  | 6 => exact (hs' 26 (by decide)).trans h
  | 7 => exact (hs' 8 (by decide)).trans h
  | i + 8 => trivial

set_option maxRecDepth 100000 in
set_option maxHeartbeats 8000000 in
theorem do_not {h : SH} {x : SX} {s : Sc} {e : EH} {n : Nd} {m : Ms} {t : Tp} {w : World} (hA : ScAt w h x s) (hm : maySc s = false) :
    Calls Tryz.prog 9 #[.agg (scCells h).toArray, .agg (fE e).toArray] w fun r w' => RetDo w s (toEd e n m t) r w' := by
  have hDE : doErr s (toEd e n m t) = 8 := by rw [doErr, hm]; rfl
  have ik : (fE e)[0]? = some (.int .u8 e.kind) := rfl
  obtain ⟨ce, hce⟩ : ∃ c, fE e = c := ⟨_, rfl⟩
  have lce : ce.length = 45 := by rw [← hce]; rfl
  have ace : ce.toArray.size = 45 := by simpa using lce
  obtain ⟨cs, hcs⟩ : ∃ c, scCells h = c := ⟨_, rfl⟩
  have lcs : cs.length = 7 := by rw [← hcs]; rfl
  have acs : cs.toArray.size = 7 := by simpa using lcs
  have CK : OneV 12 w cs (.int .i64 8) := ⟨fun w' hw => hcs ▸ lcheck10_is (hA.ex hw) (by rw [scErr, hm]; rfl)⟩
  rw [hce] at ik ⊢
  rw [hcs]
  obtain ⟨q, hq⟩ : ∃ q, w.heap.size = q := ⟨_, rfl⟩
  go_enter Tryz.func9, Tryz.ntmps9
  go_upto_region 1 with fail
  refine name_w (fun w' => (∃ y, w' = plus w y) ∧ w'.heap[q]? = some (.cells cs.toArray 34) ∧ w'.heap[q + 1]? = some (.cells ce.toArray 66) ∧ w'.heap[q + 2]? = some (.cells (scCells sh0).toArray 34) ∧ w'.heap[q + 3]? = some (.cells #[.int .i64 0, .int .i64 0, .int .i64 0] 36)) ⟨sk9, hq ▸ blk_old (blk_old (blk_old (blk_new2 _ _))), ?b1, ?b2, ?b3⟩ ?_
  case b1 => rw [← hq, ← size_alloc w (.cells cs.toArray 34)]; exact blk_old (blk_old (blk_new2 _ _))
  case b2 => rw [show q + 2 = ((w.alloc (.cells cs.toArray 34)).alloc (.cells ce.toArray 66)).heap.size by rw [size_alloc, size_alloc, hq]]; exact blk_old (blk_new2 _ _)
  case b3 => rw [show q + 3 = (((w.alloc (.cells cs.toArray 34)).alloc (.cells ce.toArray 66)).alloc (.cells (scCells sh0).toArray 34)).heap.size by rw [size_alloc, size_alloc, size_alloc, hq]]; exact blk_new2 _ _
  try simp only [hq]
  rintro w1 ⟨x1, k0, k1, k2, k3⟩
  go_upto_region 2 with (first | (refine wpList_load_row rfl 34 (Operand.tmp 2) rfl q (by kernel_rfl) _ _ _ _ (blk_ex sk9 k0) Tryz.underlying34 rfl (by rw [acs]; kernel_rfl) ?_) | (go_at_call 12; refine (CK.it _ (ex_trans x1 sk9)).mono ?_; rintro r w2 ⟨rfl, x2⟩))
  refine name_w (fun w' => ∃ y, w' = plus w1 y) (by first | exact ex_trans x2 (sk9) | exact sk9) ?_
  rintro w3 x3
  have k2_ := blk_ex x3 k2
  have k3_ := blk_ex x3 k3
  clear k2 k3 k0 k1
  obtain ⟨k2, k3⟩ := And.intro k2_ k3_
  go_wp2_with (first | (refine wpList_store_box rfl 34 (Operand.tmp 4) _ rfl (q + 2) (scCells sh0) rfl rfl _ _ (blk_ex sk9 k2) (by kernel_rfl) (by kernel_rfl) (scCells_1 _) ?_) | (refine wpList_store_box rfl 36 (Operand.tmp 5) _ rfl (q + 3) [.int .i64 0, .int .i64 0, .int .i64 0] rfl rfl _ _ (blk_row_far (blk_ex sk9 k3) (by omega)) (by kernel_rfl) rfl (by intro v hv; simp at hv; subst hv; rfl) ?_))
  exact bodyPost_ret (results_three Tryz.results9 _ _ (q + 2) (q + 3) 34 36 (scCells sh0).toArray #[.int .i64 0, .int .i64 0, .int .i64 0] _ _ (.int .i64 8) rfl rfl rfl (blk_row_far (blk_row_eq (blk_ex sk9 k2)) (by omega)) (blk_row_eq (blk_row_far (blk_ex sk9 k3) (by omega))) Tryz.underlying34 rfl (by kernel_rfl) Tryz.underlying36 rfl (by kernel_rfl)) rfl (ret_refused hDE (by first | assumption | decide) (ex_row_new (ex_row_new (ex_trans (ex_trans x1 x3) sk9) (by omega)) (by omega)))

set_option maxRecDepth 100000 in
set_option maxHeartbeats 8000000 in
theorem do_bad {h : SH} {x : SX} {s : Sc} {e : EH} {n : Nd} {m : Ms} {t : Tp} {w : World} (hA : ScAt w h x s) (hm : maySc s = true) (hk : e.kind < 1 ∨ 8 < e.kind) :
    Calls Tryz.prog 9 #[.agg (scCells h).toArray, .agg (fE e).toArray] w fun r w' => RetDo w s (toEd e n m t) r w' := by
  have hDE : doErr s (toEd e n m t) = 2 := by rw [doErr, hm, if_pos rfl, bad_kind hk]
  have hlk := look_bad hk
  replace hlk := Hush9.mk hlk
  obtain ⟨kd, hkd⟩ : ∃ k, e.kind = k := ⟨_, rfl⟩
  rw [hkd] at hlk hk
  have ik : (fE e)[0]? = some (.int .u8 e.kind) := rfl
  obtain ⟨ce, hce⟩ : ∃ c, fE e = c := ⟨_, rfl⟩
  have lce : ce.length = 45 := by rw [← hce]; rfl
  have ace : ce.toArray.size = 45 := by simpa using lce
  obtain ⟨cs, hcs⟩ : ∃ c, scCells h = c := ⟨_, rfl⟩
  have lcs : cs.length = 7 := by rw [← hcs]; rfl
  have acs : cs.toArray.size = 7 := by simpa using lcs
  have CK : OneV 12 w cs (.int .i64 0) := ⟨fun w' hw => hcs ▸ lcheck10_is (hA.ex hw) (by rw [scErr, hm]; rfl)⟩
  rw [hce] at ik ⊢
  rw [hcs]
  obtain ⟨q, hq⟩ : ∃ q, w.heap.size = q := ⟨_, rfl⟩
  go_enter Tryz.func9, Tryz.ntmps9
  go_upto_region 1 with fail
  refine name_w (fun w' => (∃ y, w' = plus w y) ∧ w'.heap[q]? = some (.cells cs.toArray 34) ∧ w'.heap[q + 1]? = some (.cells ce.toArray 66) ∧ w'.heap[q + 2]? = some (.cells (scCells sh0).toArray 34) ∧ w'.heap[q + 3]? = some (.cells #[.int .i64 0, .int .i64 0, .int .i64 0] 36)) ⟨sk9, hq ▸ blk_old (blk_old (blk_old (blk_new2 _ _))), ?b1, ?b2, ?b3⟩ ?_
  case b1 => rw [← hq, ← size_alloc w (.cells cs.toArray 34)]; exact blk_old (blk_old (blk_new2 _ _))
  case b2 => rw [show q + 2 = ((w.alloc (.cells cs.toArray 34)).alloc (.cells ce.toArray 66)).heap.size by rw [size_alloc, size_alloc, hq]]; exact blk_old (blk_new2 _ _)
  case b3 => rw [show q + 3 = (((w.alloc (.cells cs.toArray 34)).alloc (.cells ce.toArray 66)).alloc (.cells (scCells sh0).toArray 34)).heap.size by rw [size_alloc, size_alloc, size_alloc, hq]]; exact blk_new2 _ _
  try simp only [hq]
  rintro w1 ⟨x1, k0, k1, k2, k3⟩
  rw [hkd] at ik
  go_upto_region 4 with (first | (refine wpList_load_row rfl 34 (Operand.tmp 2) rfl q (by kernel_rfl) _ _ _ _ (blk_ex sk9 k0) Tryz.underlying34 rfl (by rw [acs]; kernel_rfl) ?_) | (go_at_call 12; refine (CK.it _ (ex_trans x1 sk9)).mono ?_; rintro r w2 ⟨rfl, x2⟩))
  refine name_w (fun w' => ∃ y, w' = plus w1 y) (by first | exact ex_trans x2 (sk9) | exact sk9) ?_
  rintro w2 x2
  have k1_ := blk_ex x2 k1
  have k2_ := blk_ex x2 k2
  have k3_ := blk_ex x2 k3
  clear k1 k2 k3 k0
  obtain ⟨k1, k2, k3⟩ := And.intro k1_ (And.intro k2_ k3_)
  have ek := cell_of k1 ik
  refine region_rels 8 ldS (ldΦ (q + 1) kd .nilFunc false) (by kernel_rfl) (by kernel_rfl) (by decide) (ldΦ_mono (q + 1) kd .nilFunc false) ?steps ?fin
  case steps =>
    refine ⟨?_, ?_, ?_, ?_, ?_, ?_, ?_, ?_, trivial⟩
    · intro a w' hg hfree hdeep
      obtain ⟨x, rfl⟩ := hg
      unfold Oper.wp
      simp [go_sem, execOp, Act.eval, ↓IntWalk.iteOmega]
      refine (doers_calls _).mono ?_
      rintro r w2 ⟨b, rfl, hw2, f2⟩
      exact ⟨_, rfl, hw2, b, by simp [upd], _, f2⟩
    · intro a w' hg hfree hdeep
      obtain ⟨x, rfl⟩ := hg
      have f3_ := hfree 3 (by kernel_rfl)
      simp only [ldΦ, got] at f3_
      simp [go_sem] at f3_
      unfold Oper.wp
      simp [go_sem, execOp, Act.eval, ↓IntWalk.iteOmega, f3_]
      exact ⟨_, rfl, ex_refl _, by simp [ldΦ, upd]⟩
    · intro a w' hg hfree hdeep
      obtain ⟨x, rfl⟩ := hg
      have d1 := hdeep 1 (by kernel_rfl)
      simp only [ldΦ, got] at d1
      have cke := cell_ex (w' := plus w2 x) ⟨x, rfl⟩ ek
      unfold Oper.wp
      simp [go_sem, execOp, Act.eval, ↓IntWalk.iteOmega, d1, cke]
      exact ⟨_, rfl, ex_refl _, by simp [ldΦ, upd]⟩
    · intro a w' hg hfree hdeep
      obtain ⟨x, rfl⟩ := hg
      obtain ⟨b, e21, V, f2⟩ := hdeep 0 (by kernel_rfl)
      have e23 := hdeep 2 (by kernel_rfl)
      simp only [ldΦ, got] at e21 e23
      simp at e21 e23
      have hl := look_u8 f2 kd
      rw [hlk.it] at hl
      unfold Oper.wp
      simp [go_sem, execOp, Act.eval, ↓IntWalk.iteOmega, e21, e23, hl, Result.andThen]
      exact ⟨_, rfl, ex_refl _, by simp [ldΦ, upd]⟩
    · intro a w' hg hfree hdeep
      obtain ⟨x, rfl⟩ := hg
      have d3 := hdeep 3 (by kernel_rfl)
      simp only [ldΦ, got] at d3
      unfold Oper.wp
      simp [go_sem, execOp, Act.eval, ↓IntWalk.iteOmega, d3]
      exact ⟨_, rfl, ex_refl _, by simp [ldΦ, upd]⟩
    · intro a w' hg hfree hdeep
      obtain ⟨x, rfl⟩ := hg
      have d4 := hdeep 4 (by kernel_rfl)
      simp only [ldΦ, got] at d4
      unfold Oper.wp
      simp [go_sem, execOp, Act.eval, ↓IntWalk.iteOmega, d4]
      exact ⟨_, rfl, ex_refl _, by simp [ldΦ, upd]⟩
    · intro a w' hg hfree hdeep
      obtain ⟨x, rfl⟩ := hg
      have d4 := hdeep 4 (by kernel_rfl)
      simp only [ldΦ, got] at d4
      unfold Oper.wp
      simp [go_sem, execOp, Act.eval, ↓IntWalk.iteOmega, d4]
      exact ⟨_, rfl, ex_refl _, by simp [ldΦ, upd]⟩
    · intro a w' hg hfree hdeep
      obtain ⟨x, rfl⟩ := hg
      have d5 := hdeep 5 (by kernel_rfl)
      simp only [ldΦ, got] at d5
      unfold Oper.wp
      simp [go_sem, execOp, Act.eval, ↓IntWalk.iteOmega, d5]
      exact ⟨_, rfl, ex_refl _, by simp [ldΦ, upd]⟩
  case fin =>
    rintro t w3 x3 hΦ
    have r5 := hΦ 5 (by decide)
    have r6 := hΦ 6 (by decide)
    have r7 := hΦ 7 (by decide)
    simp only [ldΦ] at r5 r6 r7
    simp only [putAll, List.take_succ_cons, List.take_zero, List.drop_succ_cons, List.drop_zero, r5, r6, r7]
    simp only [Act.put]
    simp only [List.setIfInBounds_toArray, List.set_cons_succ, List.set_cons_zero]
    clear hΦ r5 r6 r7
    have k2_ := blk_ex x3 k2
    have k3_ := blk_ex x3 k3
    clear k2 k3 k1 ek
    obtain ⟨k2, k3⟩ := And.intro k2_ k3_
    go_wp2_with (first | (refine wpList_store_box rfl 34 (Operand.tmp 4) _ rfl (q + 2) (scCells sh0) rfl rfl _ _ (blk_ex sk9 k2) (by kernel_rfl) (by kernel_rfl) (scCells_1 _) ?_) | (refine wpList_store_box rfl 36 (Operand.tmp 5) _ rfl (q + 3) [.int .i64 0, .int .i64 0, .int .i64 0] rfl rfl _ _ (blk_row_far (blk_ex sk9 k3) (by omega)) (by kernel_rfl) rfl (by intro v hv; simp at hv; subst hv; rfl) ?_))
    exact bodyPost_ret (results_three Tryz.results9 _ _ (q + 2) (q + 3) 34 36 (scCells sh0).toArray #[.int .i64 0, .int .i64 0, .int .i64 0] _ _ (.int .i64 2) rfl rfl rfl (blk_row_far (blk_row_eq (blk_ex sk9 k2)) (by omega)) (blk_row_eq (blk_row_far (blk_ex sk9 k3) (by omega))) Tryz.underlying34 rfl (by kernel_rfl) Tryz.underlying36 rfl (by kernel_rfl)) rfl (ret_refused hDE (by first | assumption | decide) (ex_row_new (ex_row_new (ex_trans (ex_trans (ex_trans x1 x2) x3) sk9) (by omega)) (by omega)))

end

end Go.Proofs.YtcekcihijdipoaaGreat
