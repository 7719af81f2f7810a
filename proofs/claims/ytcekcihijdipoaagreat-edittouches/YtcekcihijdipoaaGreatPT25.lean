/- A pack of texts: EdDoN, EdDoT. -/
import Derived.Test.YtcekcihijdipoaaGreatPT24
import Derived.Test.YtcekcihijdipoaaGreatPT18
import Derived.Test.YtcekcihijdipoaaGreatPT23
import Derived.Test.YtcekcihijdipoaaGreatPT6
namespace Go.Proofs.YtcekcihijdipoaaGreat

section


open Go.RowKit Go.ChangeShapes Go.WideShapes Go.ChangeAt

set_option linter.unusedSimpArgs false

set_option linter.unusedVariables false

attribute [local go_sem] plus_size plus_drew dn_set dn_alloc dn_plus plus_dn cell_plus frozen_plus set_plus cell_alloc frozen_alloc set_alloc

def dn8S (i : Nat) : List Nat := match i with | 0 => [40] | 1 => [41] | 2 => [42] | 3 => [43] | 4 => [44] | 5 => [45] | 6 => [46] | 7 => [47] | 8 => [48] | 9 => [49] | 10 => [50] | 11 => [51] | 12 => [52] | 13 => [53] | 14 => [54] | _ => []

def dn8Φ (T W : World) (p q b : Nat) (h : SH) (x : SX) (s : Sc) (e : EH) (n : Nd) (k : Nat) (gq : Option Nat) (i : Nat) (t : Nat → Value) (D : Nat → Bool) (w' : World) : Prop := match i with
  | 0 => t 40 = .pointer (some ⟨p, 0, none⟩)
  | 1 => t 41 = .pointer (some ⟨p, 0, none⟩)
  | 2 => t 42 = .pointer (some ⟨p, 0, none⟩)
  | 3 => t 43 = .pointer (some ⟨p, 0, none⟩)
  | 4 => t 44 = .pointer (some ⟨p, 2, none⟩)
  | 5 => t 45 = .slice h.na h.nn h.nc
  | 6 => t 46 = .pointer (some ⟨b, 0, none⟩)
  | 7 => t 47 = .int .i64 k
  | 8 => t 48 = .pointer (some ⟨q, 6, none⟩)
  | 9 => t 49 = .agg (fN e.nd).toArray
  | 10 => ∃ h3, t 50 = .agg (fN h3).toArray ∧ D 10 = true ∧ (D 11 = false → NodeOwn T w' h3 n)
  | 11 => ∃ a n' c x', t 51 = .slice a n' c ∧ D 11 = true ∧ (∃ y, w' = plus T y) ∧ ScOwn T w' (nodeAs h a n' c) x' ⟨s.g, putAt s.ns k n, s.ms, s.ts, s.root⟩
  | 12 => t 52 = .pointer (some ⟨p, 0, none⟩)
  | 13 => t 53 = .pointer (some ⟨p, 0, none⟩)
  | 14 => t 54 = .pointer (some ⟨p, 2, none⟩)
  | _ => True

theorem dn8Φ_mono (T W : World) (p q b : Nat) (h : SH) (x : SX) (s : Sc) (e : EH) (n : Nd) (k : Nat) (gq : Option Nat) : ∀ i t t' D w D' w', dn8Φ T W p q b h x s e n k gq i t D w → (∀ s ∈ dn8S i, t' s = t s) → TurnK 11 [10] gq D w D' w' → dn8Φ T W p q b h x s e n k gq i t' D' w' := by
  intro i t t' D w D' w' h_ hs' ht
  match i with
  | 0 => exact (hs' 40 (by decide)).trans h_
  | 1 => exact (hs' 41 (by decide)).trans h_
  | 2 => exact (hs' 42 (by decide)).trans h_
  | 3 => exact (hs' 43 (by decide)).trans h_
  | 4 => exact (hs' 44 (by decide)).trans h_
  | 5 => exact (hs' 45 (by decide)).trans h_
  | 6 => exact (hs' 46 (by decide)).trans h_
  | 7 => exact (hs' 47 (by decide)).trans h_
  | 8 => exact (hs' 48 (by decide)).trans h_
  | 9 => exact (hs' 49 (by decide)).trans h_
  | 10 => obtain ⟨h3, e1, e2, e3⟩ := h_; exact ⟨h3, (hs' 50 (by decide)).trans e1, ht.m 10 e2, fun q => by have q2 : D 11 = false := (by cases e9 : D 11; rfl; rw [ht.m 11 e9] at q; cases q); exact (e3 q2).ex (below_plus' ht.t (q2.trans q.symm))⟩
  | 11 => obtain ⟨a, n', c, x', e1, e2, e3, e4⟩ := h_; exact ⟨a, n', c, x', (hs' 51 (by decide)).trans e1, ht.m 11 e2, ex_trans e3 (tk_still ht e2), e4.ex (tk_still ht e2)⟩
  | 12 => exact (hs' 52 (by decide)).trans h_
  | 13 => exact (hs' 53 (by decide)).trans h_
  | 14 => exact (hs' 54 (by decide)).trans h_
  | i + 15 => trivial

set_option maxRecDepth 100000 in
set_option maxHeartbeats 16000000 in
theorem makeNode_calls {T w : World} {p : Nat} {h : SH} {x : SX} {s : Sc} (I : UwI T w p h x s) (hm : maySc s = true) (e : EH) (ps : List PH) (n : Nd) (m : Ms) (t : Tp) (hE : EditAt T e ps n m t) (hfar : e.nd.n ≤ 10000) (hk : e.kind = 1) :
    Calls Tryz.prog 63 #[.pointer (some ⟨p, 0, none⟩), vE e] w fun r w' => RetM10 T p (edSc s (toEd e n m t)) (if edErr s (toEd e n m t) = 0 then mkSlot s.g.sl else 0) (if edErr s (toEd e n m t) = 0 then mkGen s.g.sl else 0) 0 (edErr s (toEd e n m t)) r w' := by
  have hA := I.own.at (few_may hm)
  have hG := hA.g
  obtain ⟨hgk, hnl, _, _, _⟩ := may_parts hm
  obtain ⟨hok, hgl, _, _⟩ := gr_parts hgk
  have hnn := hA.nn
  have hmn := hA.mn.1
  have htn := hA.tn.1
  have f4 := (few_may hm).nn
  obtain ⟨k, hkt⟩ : ∃ k, freeAt s.g.sl = k := ⟨_, rfl⟩
  have hkle := freeAt_le s.g.sl
  rw [hkt] at hkle
  have hs : edSc s (toEd e n m t) = ⟨makeG s.g, putAt s.ns k n, s.ms, s.ts, s.root⟩ := by simp [edSc, toEd, hk, hkt]
  have hnd := nd_in e
  obtain ⟨b2, hb2⟩ : ∃ b, mayNd s.ms.length s.ts.length n = b := ⟨_, rfl⟩
  obtain ⟨er, her⟩ : ∃ v, makeGErr s.g = v := ⟨_, rfl⟩
  obtain ⟨mr, hmr⟩ : ∃ v, makeRes s.g = v := ⟨_, rfl⟩
  obtain ⟨sv, hsv⟩ : ∃ v, makeS s.g = v := ⟨_, rfl⟩
  obtain ⟨gv, hgv⟩ : ∃ v, makeH s.g = v := ⟨_, rfl⟩
  have hres : er = 0 → mr = makeG s.g ∧ sv = k ∧ gv = mkGen s.g.sl := fun e0 => ⟨by rw [← hmr, makeRes, her, if_pos e0], by rw [← hsv, makeS, her, if_pos e0, mkSlot, hkt], by rw [← hgv, makeH, her, if_pos e0]⟩
  have he : edErr s (toEd e n m t) = if b2 = true then er else 8 := by simp [edErr, toEd, hk, hb2, her]
  obtain ⟨E, hE'⟩ : ∃ E : Int, (if b2 = true then er else 8) = E := ⟨_, rfl⟩
  rw [hE'] at he
  rw [he, hs]
  obtain ⟨V1, hV1⟩ : ∃ v : Int, (if E = 0 then mkSlot s.g.sl else 0) = v := ⟨_, rfl⟩
  obtain ⟨V2, hV2⟩ : ∃ v : Int, (if E = 0 then mkGen s.g.sl else 0) = v := ⟨_, rfl⟩
  rw [hV1, hV2]
  rw [mkSlot, hkt] at hV1
  have hV0 : E ≠ 0 → V1 = 0 ∧ V2 = 0 := fun e0 => ⟨by rw [← hV1, if_neg e0], by rw [← hV2, if_neg e0]⟩
  have hVk : E = 0 → V1 = k ∧ V2 = mkGen s.g.sl := fun e0 => ⟨by rw [← hV1, if_pos e0], by rw [← hV2, if_pos e0]⟩
  replace hE' := Hush9.mk hE'
  have hck : (if mayNd h.mn h.tn n then (0 : Int) else 8) = (if b2 then 0 else 8) := by rw [← hb2, hmn, htn]
  replace hck := Hush9.mk hck
  replace hres := Hush9.mk hres
  replace hV0 := Hush9.mk hV0
  replace hVk := Hush9.mk hVk
  have hN := hE.nd
  have hM : ∀ w', GrAt w' h.ga h.gn h.ka h.kn x.gr s.g → Calls Tryz.prog 117 #[.agg #[.slice h.ga h.gn h.gc, .slice h.ka h.kn h.kc]] w' fun e w'' => ∃ ao' cap' ko' kcap' hs', e = .returned (.tuple #[.agg #[.slice ao' mr.sl.length cap', .slice ko' mr.ks.length kcap'], .agg #[.int .i64 sv, .int .i64 gv], .int .i64 er]) ∧ (∃ y, w'' = plus w' y) ∧ GrOwn w' w'' ao' mr.sl.length cap' ko' mr.ks.length kcap' hs' mr := by
    intro w' hg
    have h1 := nmake_calls h.ga h.gn h.gc h.ka h.kn h.kc x.gr s.g w' hg
    rw [hmr, hsv, hgv, her] at h1
    exact h1
  clear he hs hA hm hgk hb2 hmn htn hE hV1 hV2 hok hkt
  show Calls Tryz.prog 63 #[.pointer (some ⟨p, 0, none⟩), .agg (fE e).toArray] w _
  obtain ⟨ce, hce⟩ : ∃ c, fE e = c := ⟨_, rfl⟩
  rw [hce] at hnd ⊢
  obtain ⟨q, hq⟩ : ∃ q, w.heap.size = q := ⟨_, rfl⟩
  have lp := blk_lt I.bx
  go_enter Tryz.func63, Tryz.ntmps63
  go_upto_region 1 with fail
  refine name_w (fun w' => (∃ y, w' = plus w y) ∧ w'.heap[q]? = some (.cells ce.toArray 66) ∧ w'.heap[q + 1]? = some (.cells #[.int .i64 0, .int .i64 0, .int .i64 0] 36)) ⟨sk9, hq ▸ blk_old (blk_new2 _ _), by rw [← hq, ← size_alloc w]; exact blk_new2 _ _⟩ ?_
  try simp only [hq]
  rintro w1 ⟨x1, k1, k2⟩
  have I1 := I.on x1
  have k0 := I1.bx
  have hN1 := hN.ex (ex_trans I.ex x1)
  obtain ⟨cS, hcS⟩ : ∃ c, scCells h = c := ⟨_, rfl⟩
  have hlS : cS.length = 7 := by rw [← hcS]; rfl
  have hNq : ∀ j v, (fN e.nd)[j]? = some v → w1.cell? ⟨q, 6 + j, none⟩ = some v := fun j v hj => cell_of k1 (hnd j v hj)
  have CK : OneN w1 cS (fN e.nd) (if b2 then 0 else 8) := ⟨fun w' hw => hcS ▸ lcheckNd_v (hN1.ex hw) hfar hck.it⟩
  clear hck
  have hS : ∀ j v, cS[j]? = some v → w1.cell? ⟨p, 0 + j, none⟩ = some v := fun j v hj => by rw [Nat.zero_add]; exact cell_of k0 (by rw [hcS]; exact hj)
  refine region_plus (by kernel_rfl) (by kernel_rfl) ?_
  (repeat (first | (refine wpQuiet_load_part (by kernel_rfl) 34 (Operand.tmp 12) rfl p 0 (by kernel_rfl) cS _ (fun w' hw j v hj => cell_ex hw (hS j v hj)) Tryz.underlying34 rfl (by rw [hlS]; kernel_rfl) ?_; simp only [Act.put, List.setIfInBounds_toArray, List.set_cons_succ, List.set_cons_zero]) | (refine wpQuiet_load_part (by kernel_rfl) 56 (Operand.tmp 14) rfl q 6 (by kernel_rfl) (fN e.nd) _ (fun w' hw j v hj => cell_ex hw (hNq j v hj)) Tryz.underlying56 rfl (by kernel_rfl) ?_; simp only [Act.put, List.setIfInBounds_toArray, List.set_cons_succ, List.set_cons_zero]) | go_big_quiet_step ((go_at_call 17; exact q9_of (CK.it _ sk9)))))
  refine wpQuiet_nil ?_
  rintro _ ⟨x2, rfl⟩
  cases b2
  · obtain rfl : E = 8 := by rw [← hE'.it]; simp
    obtain ⟨rfl, rfl⟩ := hV0.it (by decide)
    go_wp2_with (refine wpList_store_box rfl 36 (Operand.tmp 4) _ rfl (q + 1) [.int .i64 0, .int .i64 0, .int .i64 0] rfl rfl _ _ (blk_ex sk9 k2) (by kernel_rfl) rfl (by intro v hv; simp at hv; subst hv; rfl) ?_)
    exact bodyPost_ret (results_two Tryz.results63 _ _ (q + 1) 36 #[.int .i64 0, .int .i64 0, .int .i64 0] _ _ (.int .i64 8) rfl rfl (blk_row_eq (blk_ex sk9 k2)) Tryz.underlying36 rfl (by kernel_rfl)) rfl ⟨rfl, ex_row_new (ex_trans I.ex (ex_trans x1 sk9)) (by have := size_ex I.ex; omega), fun e0 => by cases e0⟩
  obtain rfl : E = er := by rw [← hE'.it]; simp
  clear hE' CK hS hNq k0 hcS hlS hN1
  go_upto_region 4 with fail
  refine name_w (fun w' => ∃ y, w' = plus w1 y) sk9 ?_
  rintro w2 x02
  have k1' := blk_ex x02 k1
  have k2' := blk_ex x02 k2
  have x1' := ex_trans x1 x02
  have I2 := I1.on x02
  clear k1 k2 I1 x1 x02
  obtain ⟨k1, k2⟩ := And.intro k1' k2'
  have x1 := x1'
  clear k1' k2' x1'
  have k0 := I2.bx
  have c0 := cell_of (i := 0) k0 rfl
  have c1 := cell_of (i := 1) k0 rfl
  have hG2 := hG.ex x1
  go_upto_region 5 with (first | (go_at_call 117; refine (hM _ (hG2.ex sk9)).mono ?_; rintro r w3 ⟨a3, c3, b3, d3, hs3, rfl, x3, o3⟩) | (refine wpList_store_box rfl 27 (Operand.tmp 7) _ rfl w3.heap.size [.slice a3 mr.sl.length c3, .slice b3 mr.ks.length d3] (by simp [go_sem]) rfl _ _ (blk_old (blk_new2 _ _)) (by kernel_rfl) (by kernel_rfl) (by intro v hv; simp at hv; rcases hv with rfl | rfl <;> rfl) ?_) | (refine wpList_store_box rfl 32 (Operand.tmp 8) _ rfl (w3.heap.size + 1) [.int .i64 sv, .int .i64 gv] (by simp [go_sem]) rfl _ _ (blk_row_far (by rw [← size_alloc w3]; exact blk_new2 _ _) (by omega)) (by kernel_rfl) (by kernel_rfl) (by intro v hv; simp at hv; rcases hv with rfl | rfl <;> rfl) ?_))
  refine name_w (fun w' => (∃ y, w' = plus w3 y) ∧ w'.heap[w3.heap.size]? = some (.cells (List.toArray [.slice a3 mr.sl.length c3, .slice b3 mr.ks.length d3]) 27) ∧ w'.heap[w3.heap.size + 1]? = some (.cells #[.int .i64 sv, .int .i64 gv] 32)) ⟨ex_row_new (ex_row_new sk9 (Nat.le_refl _)) (Nat.le_succ _), blk_row_far (blk_row_eq (blk_old (blk_new2 _ _))) (by omega), blk_row_eq (blk_row_far (by rw [← size_alloc w3]; exact blk_new2 _ _) (by omega))⟩ ?_
  obtain ⟨b, hb⟩ : ∃ b, w3.heap.size = b := ⟨_, rfl⟩
  try simp only [hb]
  rintro w4 ⟨x4, k7, k8⟩
  have x34 := ex_trans x3 x4
  have I4 := I2.on x34
  have o4 := (o3.base (T' := T) (size_ex I2.ex)).ex x4
  have k1' := blk_ex x34 k1
  have k2' := blk_ex x34 k2
  have hbq : q + 1 < b := by have h1 := blk_lt k2; have h2 := size_ex x3; omega
  clear k1 k2 k0 c0 c1 hG2 I2 o3
  obtain ⟨k1, k2⟩ := And.intro k1' k2'
  clear k1' k2'
  have hTq : T.heap.size ≤ q + 1 := by have := size_ex I.ex; omega
  by_cases h0 : E = 0
  rotate_left
  · obtain ⟨rfl, rfl⟩ := hV0.it h0
    have d0 : (E == 0) = false := by rw [beq_eq_false_iff_ne]; exact h0
    go_wp2_with (refine wpList_store_box rfl 36 (Operand.tmp 4) _ rfl (q + 1) [.int .i64 0, .int .i64 0, .int .i64 0] rfl rfl _ _ (blk_ex sk9 k2) (by kernel_rfl) rfl (by intro v hv; simp at hv; subst hv; rfl) ?_)
    exact bodyPost_ret (results_two Tryz.results63 _ _ (q + 1) 36 #[.int .i64 0, .int .i64 0, .int .i64 0] _ _ (.int .i64 E) rfl rfl (blk_row_eq (blk_ex sk9 k2)) Tryz.underlying36 rfl (by kernel_rfl)) rfl ⟨rfl, ex_row_new (ex_trans I4.ex sk9) hTq, fun e0 => absurd e0 h0⟩
  subst h0
  obtain ⟨hmk, rfl, hgv2⟩ := hres.it (by first | rfl | trivial)
  replace hmk := Hush9.mk hmk
  obtain ⟨rfl, hV2⟩ := hVk.it (by first | rfl | trivial)
  obtain rfl : gv = V2 := hgv2.trans hV2.symm
  clear hVk hV0 hres hgv2 hV2 hgv hsv her
  have k0 := I4.bx
  have z0 := frozen_blk (i := 0) k0
  have z1 := frozen_blk (i := 1) k0
  have c0 := cell_of (i := 0) k0 rfl
  have c1 := cell_of (i := 1) k0 rfl
  have d0 := cell_of (i := 0) k7 rfl
  have d1 := cell_of (i := 1) k7 rfl
  have lp0 := blk_lt k0
  have lb0 := blk_lt k7
  have hbp : b ≠ p := by omega
  go_upto_region 8 with fail
  refine name_w (fun w' => ∃ h' x', h'.nn = h.nn ∧ UwI T w' p h' x' ⟨mr, s.ns, s.ms, s.ts, s.root⟩ ∧ w'.heap[q]? = some (.cells ce.toArray 66) ∧ w'.heap[q + 1]? = some (.cells #[.int .i64 0, .int .i64 0, .int .i64 0] 36) ∧ w'.heap[b + 1]? = some (.cells #[.int .i64 k, .int .i64 gv] 32)) ?nm ?_
  case nm =>
    refine ⟨graphAs h a3 mr.sl.length c3 b3 mr.ks.length d3, ⟨hs3, x.nh, x.mh, x.ph, x.th⟩, rfl, ⟨?_, ?_, ?_, I.hp⟩, ?_, ?_, ?_⟩
    · exact ex_set_new (ex_set_new I4.ex I.hp) I.hp
    · exact ((I4.own.set_other (i := 0) (u := .slice a3 mr.sl.length c3) k0 (by decide)).set_other (i := 1) (u := .slice b3 mr.ks.length d3) (blk_set k0) (by decide)).withGraph ((o4.set_other10 (i := 0) (u := .slice a3 mr.sl.length c3) k0).set_other10 (i := 1) (u := .slice b3 mr.ks.length d3) (blk_set k0))
    · have := blk_set (i := 1) (u := .slice b3 mr.ks.length d3) (blk_set (i := 0) (u := .slice a3 mr.sl.length c3) k0)
      exact this
    · exact blk_set_far (blk_set_far k1 (by omega)) (by omega)
    · exact blk_set_far (blk_set_far k2 (by omega)) (by omega)
    · exact blk_set_far (blk_set_far k8 (by omega)) (by omega)
  clear k0 k1 k2 k7 k8 z0 z1 c0 c1 d0 d1 lp0 lb0 o4 I4 x34 x4 x3
  rintro w5 ⟨h', x', hnn', U, k1, k2, k8⟩
  have k0 := U.bx
  have hN1 := hN.ex U.ex
  have hgq := own_ne10 U.own.nl k1 (by decide)
  have hgp := own_ne10 U.own.nl k0 (by decide)
  have hgt := own_ne10 U.own.nl k2 (by decide)
  have hgb := own_ne10 U.own.nl k8 (by decide)
  refine region_relD 15 dn8S (dn8Φ T w5 p q (b + 1) h' x' ⟨mr, s.ns, s.ms, s.ts, s.root⟩ e n k (Value.ownBlock (.slice h'.na h'.nn h'.nc))) (TurnK 11 [10] (Value.ownBlock (.slice h'.na h'.nn h'.nc))) tk_trans (tk_draw _) (by kernel_rfl) (by kernel_rfl) (by decide) (dn8Φ_mono T w5 p q (b + 1) h' x' ⟨mr, s.ns, s.ms, s.ts, s.root⟩ e n k (Value.ownBlock (.slice h'.na h'.nn h'.nc))) ?steps ?fin
  case steps =>
    refine ⟨?_, ?_, ?_, ?_, ?_, ?_, ?_, ?_, ?_, ?_, ?_, ?_, ?_, ?_, ?_, trivial⟩
    · intro a D w' hg hfree hdeep hD
      have f0_ := hfree 0 (by kernel_rfl)
      simp only [dn8Φ, got] at f0_
      simp [go_sem] at f0_
      unfold Oper.wp
      simp [go_sem, execOp, Act.eval, ↓IntWalk.iteOmega, f0_]
      exact ⟨_, rfl, tk_grow (by decide) (ex_refl _), by simp [dn8Φ, upd]⟩
    · intro a D w' hg hfree hdeep hD
      have f0_ := hfree 0 (by kernel_rfl)
      simp only [dn8Φ, got] at f0_
      simp [go_sem] at f0_
      unfold Oper.wp
      simp [go_sem, execOp, Act.eval, ↓IntWalk.iteOmega, f0_]
      exact ⟨_, rfl, tk_grow (by decide) (ex_refl _), by simp [dn8Φ, upd]⟩
    · intro a D w' hg hfree hdeep hD
      have d1 := hdeep 1 (by kernel_rfl)
      simp only [dn8Φ, got] at d1
      simp [go_sem] at d1
      unfold Oper.wp
      simp [go_sem, execOp, Act.eval, ↓IntWalk.iteOmega, d1]
      exact ⟨_, rfl, tk_grow (by decide) (ex_refl _), by simp [dn8Φ, upd]⟩
    · intro a D w' hg hfree hdeep hD
      have d2 := hdeep 2 (by kernel_rfl)
      simp only [dn8Φ, got] at d2
      simp [go_sem] at d2
      unfold Oper.wp
      simp [go_sem, execOp, Act.eval, ↓IntWalk.iteOmega, d2]
      exact ⟨_, rfl, tk_grow (by decide) (ex_refl _), by simp [dn8Φ, upd]⟩
    · intro a D w' hg hfree hdeep hD
      have d3 := hdeep 3 (by kernel_rfl)
      simp only [dn8Φ, got] at d3
      simp [go_sem] at d3
      unfold Oper.wp
      simp [go_sem, execOp, Act.eval, ↓IntWalk.iteOmega, d3]
      exact ⟨_, rfl, tk_grow (by decide) (ex_refl _), by simp [dn8Φ, upd]⟩
    · intro a D w' hg hfree hdeep hD
      have d4 := hdeep 4 (by kernel_rfl)
      simp only [dn8Φ, got] at d4
      simp [go_sem] at d4
      have kp := turn_blk hg.t hgp k0
      have cc2 := cell_of (i := 2) kp rfl
      unfold Oper.wp
      simp [go_sem, execOp, Act.eval, ↓IntWalk.iteOmega, d4, cc2]
      exact ⟨_, rfl, tk_grow (by decide) (ex_refl _), by simp [dn8Φ, upd]⟩
    · intro a D w' hg hfree hdeep hD
      have f8_ := hfree 8 (by kernel_rfl)
      simp only [dn8Φ, got] at f8_
      simp [go_sem] at f8_
      unfold Oper.wp
      simp [go_sem, execOp, Act.eval, ↓IntWalk.iteOmega, f8_]
      exact ⟨_, rfl, tk_grow (by decide) (ex_refl _), by simp [dn8Φ, upd]⟩
    · intro a D w' hg hfree hdeep hD
      have d6 := hdeep 6 (by kernel_rfl)
      simp only [dn8Φ, got] at d6
      simp [go_sem] at d6
      have kb := turn_blk hg.t hgb k8
      have cb0 : w'.cell? ⟨b + 1, 0, none⟩ = _ := cell_blk kb rfl
      unfold Oper.wp
      simp [go_sem, execOp, Act.eval, ↓IntWalk.iteOmega, d6, cb0]
      exact ⟨_, rfl, tk_grow (by decide) (ex_refl _), by simp [dn8Φ, upd]⟩
    · intro a D w' hg hfree hdeep hD
      have f3_ := hfree 3 (by kernel_rfl)
      simp only [dn8Φ, got] at f3_
      simp [go_sem] at f3_
      unfold Oper.wp
      simp [go_sem, execOp, Act.eval, ↓IntWalk.iteOmega, f3_]
      exact ⟨_, rfl, tk_grow (by decide) (ex_refl _), by simp [dn8Φ, upd]⟩
    · intro a D w' hg hfree hdeep hD
      have e9 := hdeep 8 (by kernel_rfl)
      simp only [dn8Φ, got] at e9
      simp at e9
      have kq := turn_blk hg.t hgq k1
      unfold Oper.wp
      rw [exec_load_part 56 (Operand.tmp 48) rfl q 6 (by simp [Act.eval, e9]) (fN e.nd) _ (fun j v hj => cell_of kq (hnd j v hj)) Tryz.underlying56 rfl (by kernel_rfl)]
      exact ⟨_, rfl, tk_grow (by decide) (ex_refl _), by simp [dn8Φ, upd]⟩
    · intro a D w' hg hfree hdeep hD
      have e8 := hdeep 9 (by kernel_rfl)
      simp only [dn8Φ, got] at e8
      simp at e8
      obtain ⟨x9, rfl⟩ := tk_ahead hg (r := 10) (by decide) hD
      unfold Oper.wp
      simp [go_sem, execOp, Act.eval, ↓IntWalk.iteOmega, e8]
      refine (twinNode_calls e.nd n _ (hN1.ex ⟨x9, rfl⟩) hfar).mono ?_
      rintro r w4 ⟨h3, rfl, hw4, o2⟩
      exact ⟨_, rfl, tk_grow (by decide) hw4, h3, by simp [upd]; rfl, also_self' _, fun _ => o2.base (size_ex (ex_trans U.ex ⟨x9, rfl⟩))⟩
    · intro a D w' hg hfree hdeep hD
      have e5 := hdeep 5 (by kernel_rfl)
      have e6 := hdeep 7 (by kernel_rfl)
      obtain ⟨h3, e9, D9, o9⟩ := hdeep 10 (by kernel_rfl)
      have o3 := o9 hD
      obtain ⟨x9, rfl⟩ := turn_ahead hg.t hD
      simp only [dn8Φ, got] at e5 e6 e9
      simp at e5 e6 e9
      unfold Oper.wp
      simp [go_sem, execOp, Act.eval, ↓IntWalk.iteOmega, e5, e6, e9]
      refine (putN_calls T h'.na h'.nn h'.nc x'.nh k h3 _ (ex_trans U.ex ⟨x9, rfl⟩) (U.own.nl.ex ⟨x9, rfl⟩) (by omega) (by omega)).mono ?_
      rintro r w4 ⟨a4, n4, c4, rfl, hx4, on4, hgr4⟩
      exact ⟨_, rfl, tk_do hgr4 hD (fun r hr => by simp only [List.mem_cons, List.not_mem_nil, or_false] at hr; subst hr; exact D9), a4, n4, c4, _, by simp [upd], also_self' _, hx4, (U.own.ex ⟨x9, rfl⟩).putNode o3 (by omega) hgr4 on4⟩
    · intro a D w' hg hfree hdeep hD
      have d0 := hdeep 0 (by kernel_rfl)
      simp only [dn8Φ, got] at d0
      simp [go_sem] at d0
      unfold Oper.wp
      simp [go_sem, execOp, Act.eval, ↓IntWalk.iteOmega, d0]
      exact ⟨_, rfl, tk_grow (by decide) (ex_refl _), by simp [dn8Φ, upd]⟩
    · intro a D w' hg hfree hdeep hD
      have d12 := hdeep 12 (by kernel_rfl)
      simp only [dn8Φ, got] at d12
      simp [go_sem] at d12
      unfold Oper.wp
      simp [go_sem, execOp, Act.eval, ↓IntWalk.iteOmega, d12]
      exact ⟨_, rfl, tk_grow (by decide) (ex_refl _), by simp [dn8Φ, upd]⟩
    · intro a D w' hg hfree hdeep hD
      have d13 := hdeep 13 (by kernel_rfl)
      simp only [dn8Φ, got] at d13
      simp [go_sem] at d13
      unfold Oper.wp
      simp [go_sem, execOp, Act.eval, ↓IntWalk.iteOmega, d13]
      exact ⟨_, rfl, tk_grow (by decide) (ex_refl _), by simp [dn8Φ, upd]⟩
  case fin =>
    rintro t D w8 hDa hg hΦ
    obtain ⟨a4, n4, c4, y', e33, _, hxT, own⟩ := hΦ 11 (by decide)
    have e36 := hΦ 14 (by decide)
    simp only [dn8Φ] at e36
    have kp := turn_blk hg.t hgp k0
    have cp := cell_of (i := 2) kp rfl
    have zp := frozen_blk (i := 2) kp
    have k3 := turn_blk hg.t hgt k2
    have kb3 := turn_blk hg.t hgb k8
    simp only [putAll, List.take_succ_cons, List.take_zero, List.drop_succ_cons, List.drop_zero, e33, e36]
    simp only [Act.put]
    simp only [List.setIfInBounds_toArray, List.set_cons_succ, List.set_cons_zero]
    rw [hmk.it] at own
    clear hΦ e33 e36 hg hDa
    go_upto_region 9 with fail
    refine name_w (fun w' => UwI T w' p (nodeAs h' a4 n4 c4) y' ⟨makeG s.g, putAt s.ns k n, s.ms, s.ts, s.root⟩ ∧ w'.heap[q + 1]? = some (.cells #[.int .i64 0, .int .i64 0, .int .i64 0] 36) ∧ w'.heap[b + 1]? = some (.cells #[.int .i64 k, .int .i64 gv] 32)) ⟨⟨ex_set_new hxT I.hp, own.set_other kp (by decide), by have := blk_set (i := 2) (u := .slice a4 n4 c4) kp; exact this, I.hp⟩, blk_set_far k3 (by omega), blk_set_far kb3 (by omega)⟩ ?_
    clear own kp cp zp k3 kb3 hxT k0 k1 k2 k8 U hgq hgp hgt hgb
    rintro w6 ⟨I3, k2, k8⟩
    have d0 : w6.cell? ⟨b + 1, 0, none⟩ = some (.int .i64 k) := cell_blk k8 rfl
    have d1 : w6.cell? ⟨b + 1, 1, none⟩ = some (.int .i64 gv) := cell_blk k8 rfl
    go_wp2_with (refine wpList_store_box rfl 36 (Operand.tmp 4) _ rfl (q + 1) [.int .i64 k, .int .i64 gv, .int .i64 0] rfl rfl _ _ k2 (by kernel_rfl) rfl (by intro v hv; simp at hv; rcases hv with rfl | rfl | rfl <;> rfl) ?_)
    exact bodyPost_ret (results_two Tryz.results63 _ _ (q + 1) 36 #[.int .i64 k, .int .i64 gv, .int .i64 0] _ _ (.int .i64 0) rfl rfl (blk_row_eq k2) Tryz.underlying36 rfl (by kernel_rfl)) rfl ⟨rfl, ex_row_new I3.ex hTq, fun _ => ⟨_, _, I3.took k2 hTq⟩⟩

end

section


open Go.RowKit Go.ChangeShapes Go.WideShapes Go.ChangeAt

set_option linter.unusedSimpArgs false

set_option linter.unusedVariables false

attribute [local go_sem] plus_size plus_drew dn_set dn_alloc dn_plus plus_dn cell_plus frozen_plus set_plus cell_alloc frozen_alloc set_alloc

theorem few_texErr {t : Tp} (h : texErr t = 0) : FewTp t := by
  unfold texErr at h
  split at h
  · rename_i h1; exact few_tex h1
  · cases h

def texAs (h : SH) (a : Option Addr) (n c : Nat) : SH := ⟨h.ga, h.gn, h.gc, h.ka, h.kn, h.kc, h.na, h.nn, h.nc, h.ma, h.mn, h.mc, a, n, c, h.r0, h.r1⟩

def x1S (i : Nat) : List Nat := match i with | 0 => [27] | 1 => [28] | 2 => [29] | 3 => [30] | 4 => [31] | 5 => [32] | 6 => [33] | 7 => [34] | 8 => [35] | 9 => [36] | 10 => [37] | 11 => [38] | 12 => [39] | 13 => [40] | _ => []

def x1Φ (T W : World) (p q : Nat) (h : SH) (x : SX) (s : Sc) (e : EH) (mt : Tp) (k : Nat) (gq : Option Nat) (i : Nat) (t : Nat → Value) (D : Nat → Bool) (w' : World) : Prop := match i with
  | 0 => t 27 = .pointer (some ⟨p, 0, none⟩)
  | 1 => t 28 = .pointer (some ⟨p, 0, none⟩)
  | 2 => t 29 = .pointer (some ⟨p, 0, none⟩)
  | 3 => t 30 = .pointer (some ⟨p, 0, none⟩)
  | 4 => t 31 = .pointer (some ⟨p, 4, none⟩)
  | 5 => t 32 = .slice h.ta h.tn h.tc
  | 6 => t 33 = .int .i64 k
  | 7 => t 34 = .pointer (some ⟨q, 42, none⟩)
  | 8 => t 35 = .agg (fTh e.th).toArray
  | 9 => ∃ h3, t 36 = .agg (fTh h3).toArray ∧ D 9 = true ∧ (D 10 = false → TexOwn T w' h3 mt)
  | 10 => ∃ a n c x', t 37 = .slice a n c ∧ D 10 = true ∧ (∃ y, w' = plus T y) ∧ ScOwn T w' (texAs h a n c) x' ⟨s.g, s.ns, s.ms, putAt s.ts k mt, s.root⟩
  | 11 => t 38 = .pointer (some ⟨p, 0, none⟩)
  | 12 => t 39 = .pointer (some ⟨p, 0, none⟩)
  | 13 => t 40 = .pointer (some ⟨p, 4, none⟩)
  | _ => True

theorem x1Φ_mono (T W : World) (p q : Nat) (h : SH) (x : SX) (s : Sc) (e : EH) (mt : Tp) (k : Nat) (gq : Option Nat) : ∀ i t t' D w D' w', x1Φ T W p q h x s e mt k gq i t D w → (∀ s ∈ x1S i, t' s = t s) → TurnK 10 [9] gq D w D' w' → x1Φ T W p q h x s e mt k gq i t' D' w' := by
  intro i t t' D w D' w' h_ hs' ht
  match i with
  | 0 => exact (hs' 27 (by decide)).trans h_
  | 1 => exact (hs' 28 (by decide)).trans h_
  | 2 => exact (hs' 29 (by decide)).trans h_
  | 3 => exact (hs' 30 (by decide)).trans h_
  | 4 => exact (hs' 31 (by decide)).trans h_
  | 5 => exact (hs' 32 (by decide)).trans h_
  | 6 => exact (hs' 33 (by decide)).trans h_
  | 7 => exact (hs' 34 (by decide)).trans h_
  | 8 => exact (hs' 35 (by decide)).trans h_
  | 9 => obtain ⟨h3, e1, e2, e3⟩ := h_; exact ⟨h3, (hs' 36 (by decide)).trans e1, ht.m 9 e2, fun q => by have q2 : D 10 = false := (by cases e9 : D 10; rfl; rw [ht.m 10 e9] at q; cases q); exact (e3 q2).ex (below_plus' ht.t (q2.trans q.symm))⟩
  | 10 => obtain ⟨a, n, c, x', e1, e2, e3, e4⟩ := h_; exact ⟨a, n, c, x', (hs' 37 (by decide)).trans e1, ht.m 10 e2, ex_trans e3 (tk_still ht e2), e4.ex (tk_still ht e2)⟩
  | 11 => exact (hs' 38 (by decide)).trans h_
  | 12 => exact (hs' 39 (by decide)).trans h_
  | 13 => exact (hs' 40 (by decide)).trans h_
  | i + 14 => trivial

set_option maxRecDepth 100000 in
set_option maxHeartbeats 8000000 in
theorem putTex_calls {T w : World} {p : Nat} {h : SH} {x : SX} {s : Sc} (I : UwI T w p h x s) (hm : maySc s = true) (e : EH) (ps : List PH) (n : Nd) (m : Ms) (mt : Tp) (hE : EditAt w e ps n m mt) (hk : e.kind = 7) :
    Calls Tryz.prog 69 #[.pointer (some ⟨p, 0, none⟩), vE e] w fun r w' => RetM10 T p (edSc s (toEd e n m mt)) 0 0 (placeV e.at' s.ts.length 16 (texErr mt)) (edErr s (toEd e n m mt)) r w' := by
  have hA := I.own.at (few_may hm)
  obtain ⟨_, _, hst, _, _⟩ := may_parts hm
  have h32 := (stores_parts hst).2.2.2
  have hmn := hA.tn
  have he : edErr s (toEd e n m mt) = placeErr e.at' s.ts.length 16 (texErr mt) := by simp [edErr, toEd, hk]
  have hs : edSc s (toEd e n m mt) = ⟨s.g, s.ns, s.ms, putAt s.ts (placeAt e.at' s.ts.length) mt, s.root⟩ := by simp [edSc, toEd, hk]
  have i5 : (fE e)[5]? = some (.int .i64 e.at') := rfl
  have i39 : (fE e)[42]? = some (.int .i64 e.th.w) := rfl
  have i40 : (fE e)[43]? = some (.int .i64 e.th.h) := rfl
  have i41 : (fE e)[44]? = some (.slice e.th.ao e.th.n e.th.cap) := rfl
  have hcx : errT e.th.w e.th.h e.th.n = texErr mt := by rw [errT, texMay hE.th, texErr]
  rw [he, hs]
  show Calls Tryz.prog 69 #[.pointer (some ⟨p, 0, none⟩), .agg (fE e).toArray] w _
  obtain ⟨ce, hce⟩ : ∃ c, fE e = c := ⟨_, rfl⟩
  rw [hce] at i5 i39 i40 i41 ⊢
  obtain ⟨em, hem⟩ : ∃ v, texErr mt = v := ⟨_, rfl⟩
  rw [hem] at hcx ⊢
  obtain ⟨er, her⟩ : ∃ v, placeErr e.at' s.ts.length 16 em = v := ⟨_, rfl⟩
  obtain ⟨pv, hpv⟩ : ∃ v, placeV e.at' s.ts.length 16 em = v := ⟨_, rfl⟩
  rw [her, hpv]
  have hplace : er = 0 → pv = (placeAt e.at' s.ts.length : Nat) ∧ placeAt e.at' s.ts.length ≤ s.ts.length ∧ em = 0 := fun q => by
    have q2 := place_ok (her.trans q)
    exact ⟨by rw [← hpv, placeV, her, if_pos q], q2.1, q2.2.1⟩
  obtain ⟨k, hkk⟩ : ∃ k, placeAt e.at' s.ts.length = k := ⟨_, rfl⟩
  rw [hkk] at hplace ⊢
  rw [hmn.1] at her hpv
  replace her := Hush9.mk her
  replace hpv := Hush9.mk hpv
  replace hplace := Hush9.mk hplace
  obtain ⟨q, hq⟩ : ∃ q, w.heap.size = q := ⟨_, rfl⟩
  have lp := blk_lt I.bx
  go_enter Tryz.func69, Tryz.ntmps69
  go_upto_region 1 with fail
  refine name_w (fun w' => (∃ y, w' = plus w y) ∧ w'.heap[q]? = some (.cells ce.toArray 66) ∧ w'.heap[q + 1]? = some (.cells #[.int .i64 0, .int .i64 0, .int .i64 0] 36)) ⟨sk9, hq ▸ blk_old (blk_new2 _ _), by rw [← hq, ← size_alloc w]; exact blk_new2 _ _⟩ ?_
  try simp only [hq]
  rintro w1 ⟨x1, k1, k2⟩
  have I1 := I.on x1
  have k0 := I1.bx
  have c3 := cell_of (i := 4) k0 rfl
  have e5 := cell_of k1 i5
  have e39 := cell_of k1 i39
  have e40 := cell_of k1 i40
  have e41 := cell_of k1 i41
  have hM1 := hE.th.ex x1
  have l1 := blk_lt k1
  have l0 := blk_lt k0
  refine region_plus (by kernel_rfl) (by kernel_rfl) ?_
  (repeat (go_big_quiet_step (first | (go_at_call 78; exact q9_of (hcx ▸ tcheck_calls _ _ _ _ _ _)) | (go_at_call 125; exact q9_of (place_calls e.at' h.tn 16 em (by omega) (by omega) hpv.it her.it _)))))
  refine wpQuiet_nil ?_
  rintro _ ⟨x2, rfl⟩
  by_cases h0 : er = 0
  rotate_left
  · have d0 : (er == 0) = false := by rw [beq_eq_false_iff_ne]; exact h0
    go_wp2_with (refine wpList_store_box rfl 36 (Operand.tmp 4) _ rfl (q + 1) [.int .i64 0, .int .i64 0, .int .i64 0] rfl rfl _ _ (blk_ex sk9 k2) (by kernel_rfl) rfl (by intro v hv; simp at hv; subst hv; rfl) ?_)
    exact bodyPost_ret (results_two Tryz.results69 _ _ (q + 1) 36 #[.int .i64 0, .int .i64 0, .int .i64 0] _ _ (.int .i64 er) rfl rfl (blk_row_eq (blk_ex sk9 k2)) Tryz.underlying36 rfl (by kernel_rfl)) rfl ⟨by rw [← hpv.it, placeV, her.it, if_neg h0], ex_row_new (ex_trans I.ex (ex_trans x1 sk9)) (by have := size_ex I.ex; omega), fun e0 => absurd e0 h0⟩
  subst h0
  obtain ⟨hpk, hkm, hem0⟩ := hplace.it (by first | rfl | trivial)
  rw [hmn.1] at hkm
  have hfm := few_texErr (hem.trans hem0)
  subst hpk
  clear hplace her hpv hem0
  go_upto_region 4 with fail
  refine name_w (fun w' => ∃ y, w' = plus w1 y) sk9 ?_
  rintro w2 x02
  have x1_ := ex_trans x1 x02
  have k1_ := blk_ex x02 k1
  have k2_ := blk_ex x02 k2
  clear k1 k2 k0 c3 e5 e39 e40 e41 hM1 l1 l0 I1 x1
  have x1 := x1_
  obtain ⟨k1, k2⟩ := And.intro k1_ k2_
  clear k1_ k2_ x1_
  have I1 := I.on x1
  have k0 := I1.bx
  have hM1 := hE.th.ex x1
  have hgq := own_ne10 I1.own.tl k1 (by decide)
  have hgp := own_ne10 I1.own.tl k0 (by decide)
  have hgt := own_ne10 I1.own.tl k2 (by decide)
  have hqp1 : q + 1 ≠ p := by omega
  refine region_relD 14 x1S (x1Φ T w2 p q h x s e mt k (Value.ownBlock (.slice h.ta h.tn h.tc))) (TurnK 10 [9] (Value.ownBlock (.slice h.ta h.tn h.tc))) tk_trans (tk_draw _) (by kernel_rfl) (by kernel_rfl) (by decide) (x1Φ_mono T w2 p q h x s e mt k (Value.ownBlock (.slice h.ta h.tn h.tc))) ?steps ?fin
  case steps =>
    refine ⟨?_, ?_, ?_, ?_, ?_, ?_, ?_, ?_, ?_, ?_, ?_, ?_, ?_, ?_, trivial⟩
    · intro a D w' hg hfree hdeep hD
      have f0_ := hfree 0 (by kernel_rfl)
      simp only [x1Φ, got] at f0_
      simp [go_sem] at f0_
      unfold Oper.wp
      simp [go_sem, execOp, Act.eval, ↓IntWalk.iteOmega, f0_]
      exact ⟨_, rfl, tk_grow (by decide) (ex_refl _), by simp [x1Φ, upd]⟩
    · intro a D w' hg hfree hdeep hD
      have f0_ := hfree 0 (by kernel_rfl)
      simp only [x1Φ, got] at f0_
      simp [go_sem] at f0_
      unfold Oper.wp
      simp [go_sem, execOp, Act.eval, ↓IntWalk.iteOmega, f0_]
      exact ⟨_, rfl, tk_grow (by decide) (ex_refl _), by simp [x1Φ, upd]⟩
    · intro a D w' hg hfree hdeep hD
      have d1 := hdeep 1 (by kernel_rfl)
      simp only [x1Φ, got] at d1
      simp [go_sem] at d1
      unfold Oper.wp
      simp [go_sem, execOp, Act.eval, ↓IntWalk.iteOmega, d1]
      exact ⟨_, rfl, tk_grow (by decide) (ex_refl _), by simp [x1Φ, upd]⟩
    · intro a D w' hg hfree hdeep hD
      have d2 := hdeep 2 (by kernel_rfl)
      simp only [x1Φ, got] at d2
      simp [go_sem] at d2
      unfold Oper.wp
      simp [go_sem, execOp, Act.eval, ↓IntWalk.iteOmega, d2]
      exact ⟨_, rfl, tk_grow (by decide) (ex_refl _), by simp [x1Φ, upd]⟩
    · intro a D w' hg hfree hdeep hD
      have d3 := hdeep 3 (by kernel_rfl)
      simp only [x1Φ, got] at d3
      simp [go_sem] at d3
      unfold Oper.wp
      simp [go_sem, execOp, Act.eval, ↓IntWalk.iteOmega, d3]
      exact ⟨_, rfl, tk_grow (by decide) (ex_refl _), by simp [x1Φ, upd]⟩
    · intro a D w' hg hfree hdeep hD
      have d4 := hdeep 4 (by kernel_rfl)
      simp only [x1Φ, got] at d4
      simp [go_sem] at d4
      have kp := turn_blk hg.t hgp k0
      have cc3 := cell_of (i := 4) kp rfl
      unfold Oper.wp
      simp [go_sem, execOp, Act.eval, ↓IntWalk.iteOmega, d4, cc3]
      exact ⟨_, rfl, tk_grow (by decide) (ex_refl _), by simp [x1Φ, upd]⟩
    · intro a D w' hg hfree hdeep hD
      have f6_ := hfree 6 (by kernel_rfl)
      simp only [x1Φ, got] at f6_
      simp [go_sem] at f6_
      unfold Oper.wp
      simp [go_sem, execOp, Act.eval, ↓IntWalk.iteOmega, f6_]
      exact ⟨_, rfl, tk_grow (by decide) (ex_refl _), by simp [x1Φ, upd]⟩
    · intro a D w' hg hfree hdeep hD
      have f3_ := hfree 3 (by kernel_rfl)
      simp only [x1Φ, got] at f3_
      simp [go_sem] at f3_
      unfold Oper.wp
      simp [go_sem, execOp, Act.eval, ↓IntWalk.iteOmega, f3_]
      exact ⟨_, rfl, tk_grow (by decide) (ex_refl _), by simp [x1Φ, upd]⟩
    · intro a D w' hg hfree hdeep hD
      have d7 := hdeep 7 (by kernel_rfl)
      simp only [x1Φ, got] at d7
      simp [go_sem] at d7
      have kq := turn_blk hg.t hgq k1
      have ci39 := cell_of kq i39
      have ci40 := cell_of kq i40
      have ci41 := cell_of kq i41
      unfold Oper.wp
      simp [go_sem, execOp, Act.eval, ↓IntWalk.iteOmega, d7, ci39, ci40, ci41]
      exact ⟨_, rfl, tk_grow (by decide) (ex_refl _), by simp [x1Φ, upd]; rfl⟩
    · intro a D w' hg hfree hdeep hD
      have e8 := hdeep 8 (by kernel_rfl)
      simp only [x1Φ, got] at e8
      simp at e8
      obtain ⟨x9, rfl⟩ := tk_ahead hg (r := 9) (by decide) hD
      unfold Oper.wp
      simp [go_sem, execOp, Act.eval, ↓IntWalk.iteOmega, e8]
      refine (ttwin_at (hM1.ex ⟨x9, rfl⟩) hfm).mono ?_
      rintro r w4 ⟨h3, rfl, hw4, o2⟩
      exact ⟨_, rfl, tk_grow (by decide) hw4, h3, by simp [upd], also_self' _, fun _ => o2.base (size_ex (ex_trans I1.ex ⟨x9, rfl⟩))⟩
    · intro a D w' hg hfree hdeep hD
      have e5 := hdeep 5 (by kernel_rfl)
      have e6 := hdeep 6 (by kernel_rfl)
      obtain ⟨h3, e9, D9, o9⟩ := hdeep 9 (by kernel_rfl)
      have o3 := o9 hD
      obtain ⟨x9, rfl⟩ := turn_ahead hg.t hD
      simp only [x1Φ, got] at e5 e6 e9
      simp at e5 e6 e9
      unfold Oper.wp
      simp [go_sem, execOp, Act.eval, ↓IntWalk.iteOmega, e5, e6, e9]
      refine (putT_calls T h.ta h.tn h.tc x.th k h3 _ (ex_trans I1.ex ⟨x9, rfl⟩) (I1.own.tl.ex ⟨x9, rfl⟩) hkm (by omega)).mono ?_
      rintro r w4 ⟨a4, n4, c4, rfl, hx4, on4, hgr4⟩
      exact ⟨_, rfl, tk_do hgr4 hD (fun r hr => by simp only [List.mem_cons, List.not_mem_nil, or_false] at hr; subst hr; exact D9), a4, n4, c4, _, by simp [upd], also_self' _, hx4, (I1.own.ex ⟨x9, rfl⟩).putTex o3 hkm hgr4 on4⟩
    · intro a D w' hg hfree hdeep hD
      have d0 := hdeep 0 (by kernel_rfl)
      simp only [x1Φ, got] at d0
      simp [go_sem] at d0
      unfold Oper.wp
      simp [go_sem, execOp, Act.eval, ↓IntWalk.iteOmega, d0]
      exact ⟨_, rfl, tk_grow (by decide) (ex_refl _), by simp [x1Φ, upd]⟩
    · intro a D w' hg hfree hdeep hD
      have d11 := hdeep 11 (by kernel_rfl)
      simp only [x1Φ, got] at d11
      simp [go_sem] at d11
      unfold Oper.wp
      simp [go_sem, execOp, Act.eval, ↓IntWalk.iteOmega, d11]
      exact ⟨_, rfl, tk_grow (by decide) (ex_refl _), by simp [x1Φ, upd]⟩
    · intro a D w' hg hfree hdeep hD
      have d12 := hdeep 12 (by kernel_rfl)
      simp only [x1Φ, got] at d12
      simp [go_sem] at d12
      unfold Oper.wp
      simp [go_sem, execOp, Act.eval, ↓IntWalk.iteOmega, d12]
      exact ⟨_, rfl, tk_grow (by decide) (ex_refl _), by simp [x1Φ, upd]⟩
  case fin =>
    rintro t D w9 hDa hg hΦ
    obtain ⟨a4, n4, c4, x', e37, _, hxT, own⟩ := hΦ 10 (by decide)
    have e40 := hΦ 13 (by decide)
    have e33 := hΦ 6 (by decide)
    simp only [x1Φ] at e40 e33
    have kp := turn_blk hg.t hgp k0
    have cp := cell_of (i := 4) kp rfl
    have zp := frozen_blk (i := 4) kp
    have k3 := turn_blk hg.t hgt k2
    simp only [putAll, List.take_succ_cons, List.take_zero, List.drop_succ_cons, List.drop_zero, e37, e40, e33]
    simp only [Act.put]
    simp only [List.setIfInBounds_toArray, List.set_cons_succ, List.set_cons_zero]
    clear hΦ e37 e40 e33
    have hTq : T.heap.size ≤ q + 1 := by have := size_ex I.ex; omega
    go_upto_region 5 with fail
    refine name_w (fun w' => UwI T w' p (texAs h a4 n4 c4) x' ⟨s.g, s.ns, s.ms, putAt s.ts k mt, s.root⟩ ∧ w'.heap[q + 1]? = some (.cells #[.int .i64 0, .int .i64 0, .int .i64 0] 36)) ⟨⟨ex_set_new hxT I.hp, own.set_other kp (by decide), by have := blk_set (i := 4) (u := .slice a4 n4 c4) kp; exact this, I.hp⟩, blk_set_far k3 (by omega)⟩ ?_
    clear own kp cp zp k3 hxT
    rintro w3 ⟨I3, k2⟩
    go_wp2_with (refine wpList_store_box rfl 36 (Operand.tmp 4) _ rfl (q + 1) [.int .i64 0, .int .i64 0, .int .i64 k] rfl rfl _ _ k2 (by kernel_rfl) rfl (by intro v hv; simp at hv; rcases hv with rfl | rfl <;> rfl) ?_)
    exact bodyPost_ret (results_two Tryz.results69 _ _ (q + 1) 36 #[.int .i64 0, .int .i64 0, .int .i64 k] _ _ (.int .i64 0) rfl rfl (blk_row_eq k2) Tryz.underlying36 rfl (by kernel_rfl)) rfl ⟨rfl, ex_row_new I3.ex hTq, fun _ => ⟨_, _, I3.took k2 hTq⟩⟩

end

end Go.Proofs.YtcekcihijdipoaaGreat
