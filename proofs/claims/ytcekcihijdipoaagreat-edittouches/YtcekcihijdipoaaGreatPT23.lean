/- A pack of texts: EdDoU, EdPl, EdOwn4, EdDoM. -/
import Derived.Test.YtcekcihijdipoaaGreatPT21
import Derived.Test.YtcekcihijdipoaaGreatPT22
import Derived.Test.YtcekcihijdipoaaGreatPT20
import Derived.Test.YtcekcihijdipoaaGreatPT19
namespace Go.Proofs.YtcekcihijdipoaaGreat

section


open Go.RowKit Go.ChangeShapes Go.WideShapes Go.ChangeAt

set_option linter.unusedSimpArgs false

set_option linter.unusedVariables false

attribute [local go_sem] plus_size plus_drew dn_set dn_alloc dn_plus plus_dn cell_plus frozen_plus set_plus cell_alloc frozen_alloc set_alloc

theorem below_plus' {d : Nat} {gb : Option Nat} {D D' : Nat → Bool} {w w' : World} (h : Turn d gb D w D' w') (hD : D d = D' d) : ∃ x, w' = plus w x :=
  below_plus ⟨h.grow.os, h.grow.tape, h.grow.output, h.grow.size, fun k hk => h.same hD k hk⟩

def u1S (i : Nat) : List Nat := match i with | 0 => [6] | 1 => [7] | 2 => [8] | 3 => [9] | 4 => [10] | 5 => [11] | 6 => [12] | 7 => [13] | 8 => [14] | 9 => [15] | 10 => [16] | 11 => [17] | 12 => [18, 17] | 13 => [19] | 14 => [20] | _ => []

def u1Φ (T : World) (p q : Nat) (h : SH) (x : SX) (s : Sc) (e : EH) (g' : Gr) (er : Int) (gq : Option Nat) (i : Nat) (t : Nat → Value) (D : Nat → Bool) (w' : World) : Prop := match i with
  | 0 => t 6 = .agg #[.int .i64 0, .int .i64 0, .int .i64 0]
  | 1 => t 7 = .pointer (some ⟨p, 0, none⟩)
  | 2 => t 8 = .pointer (some ⟨p, 0, none⟩)
  | 3 => t 9 = .pointer (some ⟨p, 0, none⟩)
  | 4 => t 10 = .pointer (some ⟨p, 0, none⟩)
  | 5 => t 11 = .pointer (some ⟨p, 0, none⟩)
  | 6 => t 12 = .agg #[.slice h.ga h.gn h.gc, .slice h.ka h.kn h.kc] ∧ D 6 = true
  | 7 => t 13 = .pointer (some ⟨q, 1, none⟩)
  | 8 => t 14 = .agg #[.int .i64 e.h0, .int .i64 e.h1]
  | 9 => t 15 = .pointer (some ⟨q, 5, none⟩)
  | 10 => t 16 = .int .i64 e.at'
  | 11 => ∃ a c k kc hs, t 17 = .tuple #[.agg #[.slice a g'.sl.length c, .slice k g'.ks.length kc], .int .i64 er] ∧ D 11 = true ∧ (D 14 = false → GrOwn T w' a g'.sl.length c k g'.ks.length kc hs g')
  | 12 => ∃ v, t 17 = .tuple #[v, .int .i64 er] ∧ t 18 = v
  | 13 => t 19 = .int .i64 er
  | 14 => t 20 = .int .i64 er ∧ D 14 = true ∧ (∃ y, w' = plus T y) ∧ (er = 0 → ∃ h' x', UwI T w' p h' x' ⟨g', s.ns, s.ms, s.ts, s.root⟩)
  | _ => True

theorem u1Φ_mono (T : World) (p q : Nat) (h : SH) (x : SX) (s : Sc) (e : EH) (g' : Gr) (er : Int) (gq : Option Nat) : ∀ i t t' D w D' w', u1Φ T p q h x s e g' er gq i t D w → (∀ s ∈ u1S i, t' s = t s) → TurnK 14 [6, 11] gq D w D' w' → u1Φ T p q h x s e g' er gq i t' D' w' := by
  intro i t t' D w D' w' h_ hs' ht
  match i with
  | 0 => exact (hs' 6 (by decide)).trans h_
  | 1 => exact (hs' 7 (by decide)).trans h_
  | 2 => exact (hs' 8 (by decide)).trans h_
  | 3 => exact (hs' 9 (by decide)).trans h_
  | 4 => exact (hs' 10 (by decide)).trans h_
  | 5 => exact (hs' 11 (by decide)).trans h_
  | 6 => exact ⟨(hs' 12 (by decide)).trans h_.1, ht.m 6 h_.2⟩
  | 7 => exact (hs' 13 (by decide)).trans h_
  | 8 => exact (hs' 14 (by decide)).trans h_
  | 9 => exact (hs' 15 (by decide)).trans h_
  | 10 => exact (hs' 16 (by decide)).trans h_
  | 11 => obtain ⟨a, c, k, kc, hs, e1, e2, e3⟩ := h_; exact ⟨a, c, k, kc, hs, (hs' 17 (by decide)).trans e1, ht.m 11 e2, fun q => by have q2 : D 14 = false := (by cases e9 : D 14; rfl; rw [ht.m 14 e9] at q; cases q); obtain ⟨x, hx⟩ := below_plus' ht.t (q2.trans q.symm); exact (e3 q2).ex ⟨x, hx⟩⟩
  | 12 => obtain ⟨v, e1, e2⟩ := h_; exact ⟨v, (hs' 17 (by decide)).trans e1, (hs' 18 (by decide)).trans e2⟩
  | 13 => exact (hs' 19 (by decide)).trans h_
  | 14 => obtain ⟨e1, e2, e3, e4⟩ := h_; exact ⟨(hs' 20 (by decide)).trans e1, ht.m 14 e2, ex_trans e3 (tk_still ht e2), fun q => by obtain ⟨a, b, c⟩ := e4 q; exact ⟨a, b, c.on (tk_still ht e2)⟩⟩
  | i + 15 => trivial

set_option maxRecDepth 100000 in
set_option maxHeartbeats 4000000 in
theorem unlink_calls {T w : World} {p : Nat} {h : SH} {x : SX} {s : Sc} (I : UwI T w p h x s) (hm : maySc s = true) (e : EH) (n : Nd) (m : Ms) (t : Tp) (hk : e.kind = 4) :
    Calls Tryz.prog 66 #[.pointer (some ⟨p, 0, none⟩), vE e] w fun r w' => RetM10 T p (edSc s (toEd e n m t)) 0 0 0 (edErr s (toEd e n m t)) r w' := by
  have hA := I.own.at (few_may hm)
  have hG := hA.g
  have he : edErr s (toEd e n m t) = unlinkErr s.g (e.h0, e.h1) e.at' := by simp [edErr, toEd, hk]
  have hs : edSc s (toEd e n m t) = ⟨unlinkG s.g (e.h0, e.h1) e.at', s.ns, s.ms, s.ts, s.root⟩ := by simp [edSc, toEd, hk]
  have i1 : (fE e)[1]? = some (.int .i64 e.h0) := rfl
  have i2 : (fE e)[2]? = some (.int .i64 e.h1) := rfl
  have i5 : (fE e)[5]? = some (.int .i64 e.at') := rfl
  rw [he, hs]
  show Calls Tryz.prog 66 #[.pointer (some ⟨p, 0, none⟩), .agg (fE e).toArray] w _
  obtain ⟨ce, hce⟩ : ∃ c, fE e = c := ⟨_, rfl⟩
  rw [hce] at i1 i2 i5 ⊢
  obtain ⟨er, her⟩ : ∃ v, unlinkErr s.g (e.h0, e.h1) e.at' = v := ⟨_, rfl⟩
  obtain ⟨gr, hgr⟩ : ∃ v, unlinkRes s.g (e.h0, e.h1) e.at' = v := ⟨_, rfl⟩
  have hres : er = 0 → gr = unlinkG s.g (e.h0, e.h1) e.at' := fun e0 => by rw [← hgr, unlinkRes, her, if_pos e0]
  rw [her]
  obtain ⟨q, hq⟩ : ∃ q, w.heap.size = q := ⟨_, rfl⟩
  have lp := blk_lt I.bx
  go_enter Tryz.func66, Tryz.ntmps66
  go_upto_region 1 with fail
  refine name_w (fun w' => (∃ y, w' = plus w y) ∧ w'.heap[q]? = some (.cells ce.toArray 66) ∧ w'.heap[q + 1]? = some (.cells #[.int .i64 0, .int .i64 0, .int .i64 0] 36)) ⟨sk9, hq ▸ blk_old (blk_new2 _ _), by rw [← hq, ← size_alloc w]; exact blk_new2 _ _⟩ ?_
  try simp only [hq]
  rintro w1 ⟨x1, k1, k2⟩
  have I1 := I.on x1
  have k0 := I1.bx
  have c0 := cell_of (i := 0) k0 rfl
  have c1 := cell_of (i := 1) k0 rfl
  have hqp : q ≠ p := by omega
  have hqp1 : q + 1 ≠ p := by omega
  have hG1 := hG.ex x1
  refine region_relD 15 u1S (u1Φ T p q h x s e gr er (some p)) (TurnK 14 [6, 11] (some p)) tk_trans (tk_draw _) (by kernel_rfl) (by kernel_rfl) (by decide) (u1Φ_mono T p q h x s e gr er (some p)) ?steps ?fin
  case steps =>
    refine ⟨?_, ?_, ?_, ?_, ?_, ?_, ?_, ?_, ?_, ?_, ?_, ?_, ?_, ?_, ?_, trivial⟩
    · intro a D w' hg hfree hdeep hD
      unfold Oper.wp
      simp [go_sem, execOp, Act.eval, ↓IntWalk.iteOmega]
      exact ⟨_, rfl, tk_grow (by decide) (ex_refl _), by simp [u1Φ, upd]⟩
    · intro a D w' hg hfree hdeep hD
      have f0_ := hfree 0 (by kernel_rfl)
      simp only [u1Φ, got] at f0_
      simp [go_sem] at f0_
      unfold Oper.wp
      simp [go_sem, execOp, Act.eval, ↓IntWalk.iteOmega, f0_]
      exact ⟨_, rfl, tk_grow (by decide) (ex_refl _), by simp [u1Φ, upd]⟩
    · intro a D w' hg hfree hdeep hD
      have f0_ := hfree 0 (by kernel_rfl)
      simp only [u1Φ, got] at f0_
      simp [go_sem] at f0_
      unfold Oper.wp
      simp [go_sem, execOp, Act.eval, ↓IntWalk.iteOmega, f0_]
      exact ⟨_, rfl, tk_grow (by decide) (ex_refl _), by simp [u1Φ, upd]⟩
    · intro a D w' hg hfree hdeep hD
      have d2 := hdeep 2 (by kernel_rfl)
      simp only [u1Φ, got] at d2
      simp [go_sem] at d2
      unfold Oper.wp
      simp [go_sem, execOp, Act.eval, ↓IntWalk.iteOmega, d2]
      exact ⟨_, rfl, tk_grow (by decide) (ex_refl _), by simp [u1Φ, upd]⟩
    · intro a D w' hg hfree hdeep hD
      have d3 := hdeep 3 (by kernel_rfl)
      simp only [u1Φ, got] at d3
      simp [go_sem] at d3
      unfold Oper.wp
      simp [go_sem, execOp, Act.eval, ↓IntWalk.iteOmega, d3]
      exact ⟨_, rfl, tk_grow (by decide) (ex_refl _), by simp [u1Φ, upd]⟩
    · intro a D w' hg hfree hdeep hD
      have d4 := hdeep 4 (by kernel_rfl)
      simp only [u1Φ, got] at d4
      simp [go_sem] at d4
      unfold Oper.wp
      simp [go_sem, execOp, Act.eval, ↓IntWalk.iteOmega, d4]
      exact ⟨_, rfl, tk_grow (by decide) (ex_refl _), by simp [u1Φ, upd]⟩
    · intro a D w' hg hfree hdeep hD
      have d5 := hdeep 5 (by kernel_rfl)
      simp only [u1Φ, got] at d5
      simp [go_sem] at d5
      obtain ⟨x9, rfl⟩ := tk_ahead hg (r := 6) (by decide) hD
      have cc0 := cell_ex ⟨x9, rfl⟩ c0
      have cc1 := cell_ex ⟨x9, rfl⟩ c1
      unfold Oper.wp
      simp [go_sem, execOp, Act.eval, ↓IntWalk.iteOmega, d5, cc0, cc1]
      exact ⟨_, rfl, tk_grow (by decide) (ex_refl _), by simp [u1Φ, upd], also_self' _⟩
    · intro a D w' hg hfree hdeep hD
      have f3_ := hfree 3 (by kernel_rfl)
      simp only [u1Φ, got] at f3_
      simp [go_sem] at f3_
      unfold Oper.wp
      simp [go_sem, execOp, Act.eval, ↓IntWalk.iteOmega, f3_]
      exact ⟨_, rfl, tk_grow (by decide) (ex_refl _), by simp [u1Φ, upd]⟩
    · intro a D w' hg hfree hdeep hD
      have d7 := hdeep 7 (by kernel_rfl)
      simp only [u1Φ, got] at d7
      simp [go_sem] at d7
      have kq := turn_blk hg.t (fun e => hqp (by cases e; rfl)) k1
      have ce1 := cell_of kq i1
      have ce2 := cell_of kq i2
      unfold Oper.wp
      simp [go_sem, execOp, Act.eval, ↓IntWalk.iteOmega, d7, ce1, ce2]
      exact ⟨_, rfl, tk_grow (by decide) (ex_refl _), by simp [u1Φ, upd]⟩
    · intro a D w' hg hfree hdeep hD
      have f3_ := hfree 3 (by kernel_rfl)
      simp only [u1Φ, got] at f3_
      simp [go_sem] at f3_
      unfold Oper.wp
      simp [go_sem, execOp, Act.eval, ↓IntWalk.iteOmega, f3_]
      exact ⟨_, rfl, tk_grow (by decide) (ex_refl _), by simp [u1Φ, upd]⟩
    · intro a D w' hg hfree hdeep hD
      have d9 := hdeep 9 (by kernel_rfl)
      simp only [u1Φ, got] at d9
      simp [go_sem] at d9
      have kq := turn_blk hg.t (fun e => hqp (by cases e; rfl)) k1
      have ce5 := cell_of kq i5
      unfold Oper.wp
      simp [go_sem, execOp, Act.eval, ↓IntWalk.iteOmega, d9, ce5]
      exact ⟨_, rfl, tk_grow (by decide) (ex_refl _), by simp [u1Φ, upd]⟩
    · intro a D w' hg hfree hdeep hD
      obtain ⟨e12, D6⟩ := hdeep 6 (by kernel_rfl)
      have e14 := hdeep 8 (by kernel_rfl)
      have e16 := hdeep 10 (by kernel_rfl)
      simp only [u1Φ, got] at e12 e14 e16
      simp at e12 e14 e16
      obtain ⟨x9, rfl⟩ := tk_ahead hg (r := 11) (by decide) hD
      have hU := nunlink_calls h.ga h.gn h.gc h.ka h.kn h.kc x.gr s.g e.h0 e.h1 e.at' (plus w1 x9) (hG1.ex sk9)
      rw [hgr, her] at hU
      unfold Oper.wp
      simp [go_sem, execOp, Act.eval, ↓IntWalk.iteOmega, e12, e14, e16]
      refine hU.mono ?_
      rintro r w2 ⟨a2, c2, k2_, kc2, hs2, rfl, hw2, o2⟩
      exact ⟨_, rfl, tk_grow (by decide) hw2, a2, c2, k2_, kc2, hs2, by simp [upd], also_self' _, fun _ => o2.base (size_ex (ex_trans I1.ex ⟨x9, rfl⟩))⟩
    · intro a D w' hg hfree hdeep hD
      obtain ⟨a2, c2, k2_, kc2, hs2, e17, _, _⟩ := hdeep 11 (by kernel_rfl)
      have g17 := e17
      simp only [got] at g17
      simp at g17
      unfold Oper.wp
      simp [go_sem, execOp, Act.eval, ↓IntWalk.iteOmega, g17]
      exact ⟨_, rfl, tk_grow (by decide) (ex_refl _), .agg #[.slice a2 gr.sl.length c2, .slice k2_ gr.ks.length kc2], by simp [upd]; exact e17, by simp [upd]⟩
    · intro a D w' hg hfree hdeep hD
      obtain ⟨a2, c2, k2_, kc2, hs2, e17, _, _⟩ := hdeep 11 (by kernel_rfl)
      have g17 := e17
      simp only [got] at g17
      simp at g17
      unfold Oper.wp
      simp [go_sem, execOp, Act.eval, ↓IntWalk.iteOmega, g17]
      exact ⟨_, rfl, tk_grow (by decide) (ex_refl _), by simp [u1Φ, upd]⟩
    · intro a D w' hg hfree hdeep hD
      have e7 := hdeep 1 (by kernel_rfl)
      obtain ⟨a2, c2, k2_, kc2, hs2, e17, D11, o2⟩ := hdeep 11 (by kernel_rfl)
      obtain ⟨v, e17', e18⟩ := hdeep 12 (by kernel_rfl)
      have e19 := hdeep 13 (by kernel_rfl)
      obtain ⟨_, D6⟩ := hdeep 6 (by kernel_rfl)
      rw [e17] at e17'
      cases e17'
      have o3 := o2 hD
      obtain ⟨x9, rfl⟩ := turn_ahead hg.t hD
      have I2 := I1.on ⟨x9, rfl⟩
      simp only [u1Φ, got] at e7 e18 e19
      simp at e7 e18 e19
      unfold Oper.wp
      simp [go_sem, execOp, Act.eval, ↓IntWalk.iteOmega, e7, e18, e19]
      refine (take_calls I2 _ _ _ _ _ _ hs2 gr o3 er).mono ?_
      rintro r w2 ⟨rfl, hgw, hz, hnz⟩
      refine ⟨_, rfl, tk_do hgw hD (fun r hr => ?_), by simp [upd], also_self' _, ?_, fun e0 => ⟨_, _, hz e0⟩⟩
      · simp only [List.mem_cons, List.not_mem_nil, or_false] at hr
        rcases hr with rfl | rfl
        · exact D6
        · exact D11
      · by_cases e0 : er = 0
        · exact (hz e0).ex
        · exact ex_trans I2.ex (hnz e0)
  case fin =>
    rintro t D w9 hDa hg hΦ
    have r0 := hΦ 0 (by decide)
    obtain ⟨e20, _, hxT, hu⟩ := hΦ 14 (by decide)
    simp only [u1Φ] at r0
    have k3 := turn_blk hg.t (fun e => hqp1 (by cases e; rfl)) k2
    simp only [putAll, List.take_succ_cons, List.take_zero, List.drop_succ_cons, List.drop_zero, r0, e20]
    simp only [Act.put]
    simp only [List.setIfInBounds_toArray, List.set_cons_succ, List.set_cons_zero]
    clear hΦ r0 e20
    have hTq : T.heap.size ≤ q + 1 := by have := size_ex I.ex; omega
    go_wp2_with (refine wpList_store_box rfl 36 (Operand.tmp 4) _ rfl (q + 1) [.int .i64 0, .int .i64 0, .int .i64 0] rfl rfl _ _ k3 (by kernel_rfl) rfl (by intro v hv; simp at hv; subst hv; rfl) ?_)
    exact bodyPost_ret (results_two Tryz.results66 _ _ (q + 1) 36 #[.int .i64 0, .int .i64 0, .int .i64 0] _ _ (.int .i64 er) rfl rfl (blk_row_eq k3) Tryz.underlying36 rfl (by kernel_rfl)) rfl ⟨rfl, ex_row_new hxT hTq, fun e0 => by obtain ⟨h', x', U⟩ := hu e0; rw [hres e0] at U; exact ⟨h', x', U.took k3 hTq⟩⟩

end

section


open Go.RowKit Go.ChangeShapes Go.WideShapes Go.ChangeAt

set_option linter.unusedSimpArgs false

set_option linter.unusedVariables false

attribute [local go_sem] plus_size plus_drew dn_set dn_alloc dn_plus plus_dn cell_plus frozen_plus set_plus cell_alloc frozen_alloc set_alloc

def placeV (at_ : Int) (many most : Nat) (wrong : Int) : Int := if placeErr at_ many most wrong = 0 then (placeAt at_ many : Nat) else 0

set_option maxHeartbeats 2000000 in
theorem place_calls (a : Int) (many most : Nat) (wrong : Int) (hm : many ≤ most) (h1 : many ≤ 1000) {pv er : Int} (hp : placeV a many most wrong = pv) (he : placeErr a many most wrong = er) (w : World) :
    Calls Tryz.prog 125 #[.int .i64 a, .int .i64 many, .int .i64 most, .int .i64 wrong] w fun e w' => e = .returned (.tuple #[.int .i64 pv, .int .i64 er]) ∧ ∃ y, w' = plus w y := by
  unfold placeV at hp
  rw [he] at hp
  unfold placeErr at he
  unfold placeAt at hp
  by_cases ha : a = -1
  · subst ha
    rw [if_neg (by omega)] at he
    by_cases hw : wrong = 0
    · subst hw
      rw [if_neg (by omega)] at he
      by_cases hf : many = most
      · subst hf
        rw [if_pos (by omega)] at he
        subst he
        obtain rfl : 0 = pv := by simpa using hp
        go_enter Tryz.func125, Tryz.ntmps125
        go_wp2_with fail
        exact bodyPost_ret (v := .tuple #[.int .i64 0, .int .i64 9]) (by simp [results, Tryz.results125, go_sem]) rfl ⟨rfl, sk9⟩
      · have df : ((many : Int) == (most : Int)) = false := by rw [beq_eq_false_iff_ne]; omega
        rw [if_neg (by omega)] at he
        subst he
        obtain rfl : (many : Int) = pv := by simpa using hp
        go_enter Tryz.func125, Tryz.ntmps125
        go_wp2_with fail
        exact bodyPost_ret (v := .tuple #[.int .i64 many, .int .i64 0]) (by simp [results, Tryz.results125, go_sem]) rfl ⟨rfl, sk9⟩
    · have dw : (wrong == 0) = false := by rw [beq_eq_false_iff_ne]; exact hw
      rw [if_pos hw] at he
      subst he
      obtain rfl : 0 = pv := by rw [if_neg hw] at hp; exact hp
      go_enter Tryz.func125, Tryz.ntmps125
      go_wp2_with fail
      exact bodyPost_ret (v := .tuple #[.int .i64 0, .int .i64 wrong]) (by simp [results, Tryz.results125, go_sem]) rfl ⟨rfl, sk9⟩
  · have da : (a == -1) = false := by rw [beq_eq_false_iff_ne]; exact ha
    by_cases h0 : a < 0
    · have e0 := decide_eq_true h0
      rw [if_pos (by omega)] at he
      subst he
      obtain rfl : 0 = pv := by simpa using hp
      go_enter Tryz.func125, Tryz.ntmps125
      go_wp2_with fail
      exact bodyPost_ret (v := .tuple #[.int .i64 0, .int .i64 2]) (by simp [results, Tryz.results125, go_sem]) rfl ⟨rfl, sk9⟩
    · have e0 := decide_eq_false h0
      by_cases h2 : (many : Int) ≤ a
      · have e2 := decide_eq_true h2
        rw [if_pos (by omega)] at he
        subst he
        obtain rfl : 0 = pv := by simpa using hp
        go_enter Tryz.func125, Tryz.ntmps125
        go_wp2_with fail
        exact bodyPost_ret (v := .tuple #[.int .i64 0, .int .i64 2]) (by simp [results, Tryz.results125, go_sem]) rfl ⟨rfl, sk9⟩
      · have e2 := decide_eq_false h2
        have e3 : a < (many : Int) := by omega
        rw [if_neg (by omega)] at he
        by_cases hw : wrong = 0
        · subst hw
          rw [if_neg (by omega), if_neg (by omega)] at he
          subst he
          obtain rfl : a = pv := by rw [if_pos rfl, if_neg h0] at hp; omega
          go_enter Tryz.func125, Tryz.ntmps125
          go_wp2_with fail
          exact bodyPost_ret (v := .tuple #[.int .i64 a, .int .i64 0]) (by simp [results, Tryz.results125, go_sem]) rfl ⟨rfl, sk9⟩
        · have dw : (wrong == 0) = false := by rw [beq_eq_false_iff_ne]; exact hw
          rw [if_pos hw] at he
          subst he
          obtain rfl : 0 = pv := by rw [if_neg hw] at hp; exact hp
          go_enter Tryz.func125, Tryz.ntmps125
          go_wp2_with fail
          exact bodyPost_ret (v := .tuple #[.int .i64 0, .int .i64 wrong]) (by simp [results, Tryz.results125, go_sem]) rfl ⟨rfl, sk9⟩

end

section


open Go.RowKit

section

variable {T w w1 : World} {h : SH} {x : SX} {s : Sc} {ao' : Option Addr} {n' cap' k : Nat}

theorem ScOwn.putNode (a : ScOwn T w h x s) {hn : NH} {n : Nd} (o : NodeOwn T w hn n) (hk : k ≤ h.nn) (hgr : w.grownBy w1 (Value.ownBlock (.slice h.na h.nn h.nc))) (on : Own 56 33 fN T w1 ao' n' cap' (putAt x.nh k hn)) :
    ScOwn T w1 ⟨h.ga, h.gn, h.gc, h.ka, h.kn, h.kc, ao', n', cap', h.ma, h.mn, h.mc, h.ta, h.tn, h.tc, h.r0, h.r1⟩ ⟨x.gr, putAt x.nh k hn, x.mh, x.ph, x.th⟩ ⟨s.g, putAt s.ns k n, s.ms, s.ts, s.root⟩ := by
  have n1 := a.nl.1
  have n2 := a.nlen
  refine ⟨a.g.grown hgr a.nl (by decide) (by decide) (by decide), on, by simp only [putAt_len, n2], fun j hj => ?_, grown_own hgr a.nl a.ml (by decide), a.mlen, fun k hk => (a.ms k hk).grown hgr a.nl (by decide) (by decide) (by decide) (by decide), grown_own hgr a.nl a.tl (by decide), a.tlen, fun k hk => (a.ts k hk).grown hgr a.nl (by decide), a.root, a.pl⟩
  simp only [putAt_len] at hj ⊢
  rw [nth_putAt (by omega), nth_putAt (by omega)]
  split
  · exact o.grown hgr a.nl (by decide)
  · exact (a.ns j (by split at hj <;> omega)).grown hgr a.nl (by decide)

theorem ScOwn.putMesh (a : ScOwn T w h x s) {hm : MH} {hs : List PH} {m : Ms} (o : MeshOwn T w hm hs m) (hk : k ≤ h.mn) (hgr : w.grownBy w1 (Value.ownBlock (.slice h.ma h.mn h.mc))) (on : Own 61 3 fMh T w1 ao' n' cap' (putAt x.mh k hm)) :
    ScOwn T w1 ⟨h.ga, h.gn, h.gc, h.ka, h.kn, h.kc, h.na, h.nn, h.nc, ao', n', cap', h.ta, h.tn, h.tc, h.r0, h.r1⟩ ⟨x.gr, x.nh, putAt x.mh k hm, putAt x.ph k hs, x.th⟩ ⟨s.g, s.ns, putAt s.ms k m, s.ts, s.root⟩ := by
  have n1 := a.ml.1
  have n2 := a.mlen
  have n3 := a.pl
  refine ⟨a.g.grown hgr a.ml (by decide) (by decide) (by decide), grown_own hgr a.ml a.nl (by decide), a.nlen, fun k hk => (a.ns k hk).grown hgr a.ml (by decide), on, by simp only [putAt_len, n2], fun j hj => ?_, grown_own hgr a.ml a.tl (by decide), a.tlen, fun k hk => (a.ts k hk).grown hgr a.ml (by decide), a.root, by simp only [putAt_len, n3]⟩
  simp only [putAt_len] at hj ⊢
  rw [nth_putAt (by omega), nth_putAt (by omega), nth_putAt (by omega)]
  split
  · exact o.grown hgr a.ml (by decide) (by decide) (by decide) (by decide)
  · exact (a.ms j (by split at hj <;> omega)).grown hgr a.ml (by decide) (by decide) (by decide) (by decide)

theorem ScOwn.putTex (a : ScOwn T w h x s) {ht : TH} {t : Tp} (o : TexOwn T w ht t) (hk : k ≤ h.tn) (hgr : w.grownBy w1 (Value.ownBlock (.slice h.ta h.tn h.tc))) (on : Own 64 3 fTh T w1 ao' n' cap' (putAt x.th k ht)) :
    ScOwn T w1 ⟨h.ga, h.gn, h.gc, h.ka, h.kn, h.kc, h.na, h.nn, h.nc, h.ma, h.mn, h.mc, ao', n', cap', h.r0, h.r1⟩ ⟨x.gr, x.nh, x.mh, x.ph, putAt x.th k ht⟩ ⟨s.g, s.ns, s.ms, putAt s.ts k t, s.root⟩ := by
  have n1 := a.tl.1
  have n2 := a.tlen
  refine ⟨a.g.grown hgr a.tl (by decide) (by decide) (by decide), grown_own hgr a.tl a.nl (by decide), a.nlen, fun k hk => (a.ns k hk).grown hgr a.tl (by decide), grown_own hgr a.tl a.ml (by decide), a.mlen, fun k hk => (a.ms k hk).grown hgr a.tl (by decide) (by decide) (by decide) (by decide), on, by simp only [putAt_len, n2], fun j hj => ?_, a.root, a.pl⟩
  simp only [putAt_len] at hj ⊢
  rw [nth_putAt (by omega), nth_putAt (by omega)]
  split
  · exact o.grown hgr a.tl (by decide)
  · exact (a.ts j (by split at hj <;> omega)).grown hgr a.tl (by decide)

end

end

section


open Go.RowKit Go.ChangeShapes Go.WideShapes Go.ChangeAt

set_option linter.unusedSimpArgs false

set_option linter.unusedVariables false

attribute [local go_sem] plus_size plus_drew dn_set dn_alloc dn_plus plus_dn cell_plus frozen_plus set_plus cell_alloc frozen_alloc set_alloc

theorem own_ne10 {α : Type} {f : α → List Value} {T w : World} {ao : Option Addr} {n cap c g : Nat} {l : List α} {e e' : TypeId} {cur : Array Value} (hown : Own e c f T w ao n cap l) (hb : w.heap[g]? = some (.cells cur e')) (he : e' ≠ e) : some g ≠ Value.ownBlock (.slice ao n cap) := by
  intro e0
  cases ao with
  | none => simp [Value.ownBlock] at e0
  | some a0 =>
    simp only [Value.ownBlock, Option.some.injEq] at e0
    rcases hown.2.2 with ⟨h1, _⟩ | ⟨k, cp, cu, h1, h2, h3, _⟩
    · simp at h1
    · simp only [Value.slice.injEq, Option.some.injEq] at h1
      rw [h1.1] at e0
      simp only at e0
      rw [← e0, hb] at h3
      cases h3
      exact he rfl

def meshAs (h : SH) (a : Option Addr) (n c : Nat) : SH := ⟨h.ga, h.gn, h.gc, h.ka, h.kn, h.kc, h.na, h.nn, h.nc, a, n, c, h.ta, h.tn, h.tc, h.r0, h.r1⟩

def m1S (i : Nat) : List Nat := match i with | 0 => [27] | 1 => [28] | 2 => [29] | 3 => [30] | 4 => [31] | 5 => [32] | 6 => [33] | 7 => [34] | 8 => [35] | 9 => [36] | 10 => [37] | 11 => [38] | 12 => [39] | 13 => [40] | _ => []

def m1Φ (T W : World) (p q : Nat) (h : SH) (x : SX) (s : Sc) (e : EH) (m : Ms) (k : Nat) (gq : Option Nat) (i : Nat) (t : Nat → Value) (D : Nat → Bool) (w' : World) : Prop := match i with
  | 0 => t 27 = .pointer (some ⟨p, 0, none⟩)
  | 1 => t 28 = .pointer (some ⟨p, 0, none⟩)
  | 2 => t 29 = .pointer (some ⟨p, 0, none⟩)
  | 3 => t 30 = .pointer (some ⟨p, 0, none⟩)
  | 4 => t 31 = .pointer (some ⟨p, 3, none⟩)
  | 5 => t 32 = .slice h.ma h.mn h.mc
  | 6 => t 33 = .int .i64 k
  | 7 => t 34 = .pointer (some ⟨q, 39, none⟩)
  | 8 => t 35 = .agg (fMh e.mh).toArray
  | 9 => ∃ h3 ps, t 36 = .agg (fMh h3).toArray ∧ D 9 = true ∧ (D 10 = false → MeshOwn T w' h3 ps m)
  | 10 => ∃ a n c x', t 37 = .slice a n c ∧ D 10 = true ∧ (∃ y, w' = plus T y) ∧ ScOwn T w' (meshAs h a n c) x' ⟨s.g, s.ns, putAt s.ms k m, s.ts, s.root⟩
  | 11 => t 38 = .pointer (some ⟨p, 0, none⟩)
  | 12 => t 39 = .pointer (some ⟨p, 0, none⟩)
  | 13 => t 40 = .pointer (some ⟨p, 3, none⟩)
  | _ => True

theorem m1Φ_mono (T W : World) (p q : Nat) (h : SH) (x : SX) (s : Sc) (e : EH) (m : Ms) (k : Nat) (gq : Option Nat) : ∀ i t t' D w D' w', m1Φ T W p q h x s e m k gq i t D w → (∀ s ∈ m1S i, t' s = t s) → TurnK 10 [9] gq D w D' w' → m1Φ T W p q h x s e m k gq i t' D' w' := by
  intro i t t' D w D' w' h_ hs' ht
  match i with
  | 0 => exact (hs' 27 (by decide)).trans h_
  | 1 => exact (hs' 28 (by decide)).trans h_
  | 2 => exact (hs' 29 (by decide)).trans h_
  | 3 => exact (hs' 30 (by decide)).trans h_
  | 4 => exact (hs' 31 (by decide)).trans h_
  | 5 => exact (hs' 32 (by decide)).trans h_
  | 6 => exact (hs' 33 (by decide)).trans h_
  | 7 => exact (hs' 34 (by decide)).trans h_
  | 8 => exact (hs' 35 (by decide)).trans h_
  | 9 => obtain ⟨h3, ps, e1, e2, e3⟩ := h_; exact ⟨h3, ps, (hs' 36 (by decide)).trans e1, ht.m 9 e2, fun q => by have q2 : D 10 = false := (by cases e9 : D 10; rfl; rw [ht.m 10 e9] at q; cases q); exact (e3 q2).ex (below_plus' ht.t (q2.trans q.symm))⟩
  | 10 => obtain ⟨a, n, c, x', e1, e2, e3, e4⟩ := h_; exact ⟨a, n, c, x', (hs' 37 (by decide)).trans e1, ht.m 10 e2, ex_trans e3 (tk_still ht e2), e4.ex (tk_still ht e2)⟩
  | 11 => exact (hs' 38 (by decide)).trans h_
  | 12 => exact (hs' 39 (by decide)).trans h_
  | 13 => exact (hs' 40 (by decide)).trans h_
  | i + 14 => trivial

set_option maxRecDepth 100000 in
set_option maxHeartbeats 8000000 in
theorem putMesh_calls {T w : World} {p : Nat} {h : SH} {x : SX} {s : Sc} (I : UwI T w p h x s) (hm : maySc s = true) (e : EH) (ps : List PH) (n : Nd) (m : Ms) (t : Tp) (hE : EditAt w e ps n m t) (hk : e.kind = 6) :
    Calls Tryz.prog 68 #[.pointer (some ⟨p, 0, none⟩), vE e] w fun r w' => RetM10 T p (edSc s (toEd e n m t)) 0 0 (placeV e.at' s.ms.length 32 (msErr m)) (edErr s (toEd e n m t)) r w' := by
  have hA := I.own.at (few_may hm)
  obtain ⟨_, _, hst, _, _⟩ := may_parts hm
  have h32 := (stores_parts hst).2.2.1
  have hmn := hA.mn
  have he : edErr s (toEd e n m t) = placeErr e.at' s.ms.length 32 (msErr m) := by simp [edErr, toEd, hk]
  have hs : edSc s (toEd e n m t) = ⟨s.g, s.ns, putAt s.ms (placeAt e.at' s.ms.length) m, s.ts, s.root⟩ := by simp [edSc, toEd, hk]
  have i5 : (fE e)[5]? = some (.int .i64 e.at') := rfl
  have i39 : (fE e)[39]? = some (.slice e.mh.va e.mh.vn e.mh.vc) := rfl
  have i40 : (fE e)[40]? = some (.slice e.mh.ua e.mh.un e.mh.uc) := rfl
  have i41 : (fE e)[41]? = some (.slice e.mh.pa e.mh.pn e.mh.pc) := rfl
  rw [he, hs]
  show Calls Tryz.prog 68 #[.pointer (some ⟨p, 0, none⟩), .agg (fE e).toArray] w _
  obtain ⟨ce, hce⟩ : ∃ c, fE e = c := ⟨_, rfl⟩
  rw [hce] at i5 i39 i40 i41 ⊢
  obtain ⟨em, hem⟩ : ∃ v, msErr m = v := ⟨_, rfl⟩
  rw [hem]
  obtain ⟨er, her⟩ : ∃ v, placeErr e.at' s.ms.length 32 em = v := ⟨_, rfl⟩
  obtain ⟨pv, hpv⟩ : ∃ v, placeV e.at' s.ms.length 32 em = v := ⟨_, rfl⟩
  rw [her, hpv]
  have hplace : er = 0 → pv = (placeAt e.at' s.ms.length : Nat) ∧ placeAt e.at' s.ms.length ≤ s.ms.length ∧ em = 0 := fun q => by
    have q2 := place_ok (her.trans q)
    exact ⟨by rw [← hpv, placeV, her, if_pos q], q2.1, q2.2.1⟩
  obtain ⟨k, hkk⟩ : ∃ k, placeAt e.at' s.ms.length = k := ⟨_, rfl⟩
  rw [hkk] at hplace ⊢
  rw [hmn.1] at her hpv
  replace her := Hush9.mk her
  replace hpv := Hush9.mk hpv
  replace hplace := Hush9.mk hplace
  obtain ⟨q, hq⟩ : ∃ q, w.heap.size = q := ⟨_, rfl⟩
  have lp := blk_lt I.bx
  go_enter Tryz.func68, Tryz.ntmps68
  go_upto_region 1 with fail
  refine name_w (fun w' => (∃ y, w' = plus w y) ∧ w'.heap[q]? = some (.cells ce.toArray 66) ∧ w'.heap[q + 1]? = some (.cells #[.int .i64 0, .int .i64 0, .int .i64 0] 36)) ⟨sk9, hq ▸ blk_old (blk_new2 _ _), by rw [← hq, ← size_alloc w]; exact blk_new2 _ _⟩ ?_
  try simp only [hq]
  rintro w1 ⟨x1, k1, k2⟩
  have I1 := I.on x1
  have k0 := I1.bx
  have c3 := cell_of (i := 3) k0 rfl
  have e5 := cell_of k1 i5
  have e39 := cell_of k1 i39
  have e40 := cell_of k1 i40
  have e41 := cell_of k1 i41
  have hM1 := hE.mh.ex x1
  have l1 := blk_lt k1
  have l0 := blk_lt k0
  refine region_plus (by kernel_rfl) (by kernel_rfl) ?_
  (repeat (go_big_quiet_step (first | (go_at_call 77; exact q9_of (plus_post (mcheck_at hem (hM1.ex sk9)))) | (go_at_call 125; exact q9_of (place_calls e.at' h.mn 32 em (by omega) (by omega) hpv.it her.it _)))))
  refine wpQuiet_nil ?_
  rintro _ ⟨x2, rfl⟩
  by_cases h0 : er = 0
  rotate_left
  · have d0 : (er == 0) = false := by rw [beq_eq_false_iff_ne]; exact h0
    go_wp2_with (refine wpList_store_box rfl 36 (Operand.tmp 4) _ rfl (q + 1) [.int .i64 0, .int .i64 0, .int .i64 0] rfl rfl _ _ (blk_ex sk9 k2) (by kernel_rfl) rfl (by intro v hv; simp at hv; subst hv; rfl) ?_)
    exact bodyPost_ret (results_two Tryz.results68 _ _ (q + 1) 36 #[.int .i64 0, .int .i64 0, .int .i64 0] _ _ (.int .i64 er) rfl rfl (blk_row_eq (blk_ex sk9 k2)) Tryz.underlying36 rfl (by kernel_rfl)) rfl ⟨by rw [← hpv.it, placeV, her.it, if_neg h0], ex_row_new (ex_trans I.ex (ex_trans x1 sk9)) (by have := size_ex I.ex; omega), fun e0 => absurd e0 h0⟩
  subst h0
  obtain ⟨hpk, hkm, hem0⟩ := hplace.it (by first | rfl | trivial)
  rw [hmn.1] at hkm
  have hfm := few_msErr (hem.trans hem0)
  subst hpk
  clear hplace her hpv hem0
  go_upto_region 4 with fail
  refine name_w (fun w' => ∃ y, w' = plus w1 y) sk9 ?_
  rintro w2 x02
  have x1_ := ex_trans x1 x02
  have k1_ := blk_ex x02 k1
  have k2_ := blk_ex x02 k2
  clear k1 k2 k0 c3 e5 e39 e40 e41 hM1 l1 l0 I1 x1
  have x1 := x1_
  obtain ⟨k1, k2⟩ := And.intro k1_ k2_
  clear k1_ k2_ x1_
  have I1 := I.on x1
  have k0 := I1.bx
  have hM1 := hE.mh.ex x1
  have hgq := own_ne10 I1.own.ml k1 (by decide)
  have hgp := own_ne10 I1.own.ml k0 (by decide)
  have hgt := own_ne10 I1.own.ml k2 (by decide)
  have hqp1 : q + 1 ≠ p := by omega
  refine region_relD 14 m1S (m1Φ T w2 p q h x s e m k (Value.ownBlock (.slice h.ma h.mn h.mc))) (TurnK 10 [9] (Value.ownBlock (.slice h.ma h.mn h.mc))) tk_trans (tk_draw _) (by kernel_rfl) (by kernel_rfl) (by decide) (m1Φ_mono T w2 p q h x s e m k (Value.ownBlock (.slice h.ma h.mn h.mc))) ?steps ?fin
  case steps =>
    refine ⟨?_, ?_, ?_, ?_, ?_, ?_, ?_, ?_, ?_, ?_, ?_, ?_, ?_, ?_, trivial⟩
    · intro a D w' hg hfree hdeep hD
      have f0_ := hfree 0 (by kernel_rfl)
      simp only [m1Φ, got] at f0_
      simp [go_sem] at f0_
      unfold Oper.wp
      simp [go_sem, execOp, Act.eval, ↓IntWalk.iteOmega, f0_]
      exact ⟨_, rfl, tk_grow (by decide) (ex_refl _), by simp [m1Φ, upd]⟩
    · intro a D w' hg hfree hdeep hD
      have f0_ := hfree 0 (by kernel_rfl)
      simp only [m1Φ, got] at f0_
      simp [go_sem] at f0_
      unfold Oper.wp
      simp [go_sem, execOp, Act.eval, ↓IntWalk.iteOmega, f0_]
      exact ⟨_, rfl, tk_grow (by decide) (ex_refl _), by simp [m1Φ, upd]⟩
    · intro a D w' hg hfree hdeep hD
      have d1 := hdeep 1 (by kernel_rfl)
      simp only [m1Φ, got] at d1
      simp [go_sem] at d1
      unfold Oper.wp
      simp [go_sem, execOp, Act.eval, ↓IntWalk.iteOmega, d1]
      exact ⟨_, rfl, tk_grow (by decide) (ex_refl _), by simp [m1Φ, upd]⟩
    · intro a D w' hg hfree hdeep hD
      have d2 := hdeep 2 (by kernel_rfl)
      simp only [m1Φ, got] at d2
      simp [go_sem] at d2
      unfold Oper.wp
      simp [go_sem, execOp, Act.eval, ↓IntWalk.iteOmega, d2]
      exact ⟨_, rfl, tk_grow (by decide) (ex_refl _), by simp [m1Φ, upd]⟩
    · intro a D w' hg hfree hdeep hD
      have d3 := hdeep 3 (by kernel_rfl)
      simp only [m1Φ, got] at d3
      simp [go_sem] at d3
      unfold Oper.wp
      simp [go_sem, execOp, Act.eval, ↓IntWalk.iteOmega, d3]
      exact ⟨_, rfl, tk_grow (by decide) (ex_refl _), by simp [m1Φ, upd]⟩
    · intro a D w' hg hfree hdeep hD
      have d4 := hdeep 4 (by kernel_rfl)
      simp only [m1Φ, got] at d4
      simp [go_sem] at d4
      have kp := turn_blk hg.t hgp k0
      have cc3 := cell_of (i := 3) kp rfl
      unfold Oper.wp
      simp [go_sem, execOp, Act.eval, ↓IntWalk.iteOmega, d4, cc3]
      exact ⟨_, rfl, tk_grow (by decide) (ex_refl _), by simp [m1Φ, upd]⟩
    · intro a D w' hg hfree hdeep hD
      have f6_ := hfree 6 (by kernel_rfl)
      simp only [m1Φ, got] at f6_
      simp [go_sem] at f6_
      unfold Oper.wp
      simp [go_sem, execOp, Act.eval, ↓IntWalk.iteOmega, f6_]
      exact ⟨_, rfl, tk_grow (by decide) (ex_refl _), by simp [m1Φ, upd]⟩
    · intro a D w' hg hfree hdeep hD
      have f3_ := hfree 3 (by kernel_rfl)
      simp only [m1Φ, got] at f3_
      simp [go_sem] at f3_
      unfold Oper.wp
      simp [go_sem, execOp, Act.eval, ↓IntWalk.iteOmega, f3_]
      exact ⟨_, rfl, tk_grow (by decide) (ex_refl _), by simp [m1Φ, upd]⟩
    · intro a D w' hg hfree hdeep hD
      have d7 := hdeep 7 (by kernel_rfl)
      simp only [m1Φ, got] at d7
      simp [go_sem] at d7
      have kq := turn_blk hg.t hgq k1
      have ci39 := cell_of kq i39
      have ci40 := cell_of kq i40
      have ci41 := cell_of kq i41
      unfold Oper.wp
      simp [go_sem, execOp, Act.eval, ↓IntWalk.iteOmega, d7, ci39, ci40, ci41]
      exact ⟨_, rfl, tk_grow (by decide) (ex_refl _), by simp [m1Φ, upd]; rfl⟩
    · intro a D w' hg hfree hdeep hD
      have e8 := hdeep 8 (by kernel_rfl)
      simp only [m1Φ, got] at e8
      simp at e8
      obtain ⟨x9, rfl⟩ := tk_ahead hg (r := 9) (by decide) hD
      unfold Oper.wp
      simp [go_sem, execOp, Act.eval, ↓IntWalk.iteOmega, e8]
      refine (mtwin_at (hM1.ex ⟨x9, rfl⟩) hfm).mono ?_
      rintro r w4 ⟨h3, p3, rfl, hw4, o2⟩
      exact ⟨_, rfl, tk_grow (by decide) hw4, h3, p3, by simp [upd], also_self' _, fun _ => o2.base (size_ex (ex_trans I1.ex ⟨x9, rfl⟩))⟩
    · intro a D w' hg hfree hdeep hD
      have e5 := hdeep 5 (by kernel_rfl)
      have e6 := hdeep 6 (by kernel_rfl)
      obtain ⟨h3, p3, e9, D9, o9⟩ := hdeep 9 (by kernel_rfl)
      have o3 := o9 hD
      obtain ⟨x9, rfl⟩ := turn_ahead hg.t hD
      simp only [m1Φ, got] at e5 e6 e9
      simp at e5 e6 e9
      unfold Oper.wp
      simp [go_sem, execOp, Act.eval, ↓IntWalk.iteOmega, e5, e6, e9]
      refine (putM_calls T h.ma h.mn h.mc x.mh k h3 _ (ex_trans I1.ex ⟨x9, rfl⟩) (I1.own.ml.ex ⟨x9, rfl⟩) hkm (by omega)).mono ?_
      rintro r w4 ⟨a4, n4, c4, rfl, hx4, on4, hgr4⟩
      exact ⟨_, rfl, tk_do hgr4 hD (fun r hr => by simp only [List.mem_cons, List.not_mem_nil, or_false] at hr; subst hr; exact D9), a4, n4, c4, _, by simp [upd], also_self' _, hx4, (I1.own.ex ⟨x9, rfl⟩).putMesh o3 hkm hgr4 on4⟩
    · intro a D w' hg hfree hdeep hD
      have d0 := hdeep 0 (by kernel_rfl)
      simp only [m1Φ, got] at d0
      simp [go_sem] at d0
      unfold Oper.wp
      simp [go_sem, execOp, Act.eval, ↓IntWalk.iteOmega, d0]
      exact ⟨_, rfl, tk_grow (by decide) (ex_refl _), by simp [m1Φ, upd]⟩
    · intro a D w' hg hfree hdeep hD
      have d11 := hdeep 11 (by kernel_rfl)
      simp only [m1Φ, got] at d11
      simp [go_sem] at d11
      unfold Oper.wp
      simp [go_sem, execOp, Act.eval, ↓IntWalk.iteOmega, d11]
      exact ⟨_, rfl, tk_grow (by decide) (ex_refl _), by simp [m1Φ, upd]⟩
    · intro a D w' hg hfree hdeep hD
      have d12 := hdeep 12 (by kernel_rfl)
      simp only [m1Φ, got] at d12
      simp [go_sem] at d12
      unfold Oper.wp
      simp [go_sem, execOp, Act.eval, ↓IntWalk.iteOmega, d12]
      exact ⟨_, rfl, tk_grow (by decide) (ex_refl _), by simp [m1Φ, upd]⟩
  case fin =>
    rintro t D w9 hDa hg hΦ
    obtain ⟨a4, n4, c4, x', e37, _, hxT, own⟩ := hΦ 10 (by decide)
    have e40 := hΦ 13 (by decide)
    have e33 := hΦ 6 (by decide)
    simp only [m1Φ] at e40 e33
    have kp := turn_blk hg.t hgp k0
    have cp := cell_of (i := 3) kp rfl
    have zp := frozen_blk (i := 3) kp
    have k3 := turn_blk hg.t hgt k2
    simp only [putAll, List.take_succ_cons, List.take_zero, List.drop_succ_cons, List.drop_zero, e37, e40, e33]
    simp only [Act.put]
    simp only [List.setIfInBounds_toArray, List.set_cons_succ, List.set_cons_zero]
    clear hΦ e37 e40 e33
    have hTq : T.heap.size ≤ q + 1 := by have := size_ex I.ex; omega
    go_upto_region 5 with fail
    refine name_w (fun w' => UwI T w' p (meshAs h a4 n4 c4) x' ⟨s.g, s.ns, putAt s.ms k m, s.ts, s.root⟩ ∧ w'.heap[q + 1]? = some (.cells #[.int .i64 0, .int .i64 0, .int .i64 0] 36)) ⟨⟨ex_set_new hxT I.hp, own.set_other kp (by decide), by have := blk_set (i := 3) (u := .slice a4 n4 c4) kp; exact this, I.hp⟩, blk_set_far k3 (by omega)⟩ ?_
    clear own kp cp zp k3 hxT
    rintro w3 ⟨I3, k2⟩
    go_wp2_with (refine wpList_store_box rfl 36 (Operand.tmp 4) _ rfl (q + 1) [.int .i64 0, .int .i64 0, .int .i64 k] rfl rfl _ _ k2 (by kernel_rfl) rfl (by intro v hv; simp at hv; rcases hv with rfl | rfl <;> rfl) ?_)
    exact bodyPost_ret (results_two Tryz.results68 _ _ (q + 1) 36 #[.int .i64 0, .int .i64 0, .int .i64 k] _ _ (.int .i64 0) rfl rfl (blk_row_eq k2) Tryz.underlying36 rfl (by kernel_rfl)) rfl ⟨rfl, ex_row_new I3.ex hTq, fun _ => ⟨_, _, I3.took k2 hTq⟩⟩

end

end Go.Proofs.YtcekcihijdipoaaGreat
