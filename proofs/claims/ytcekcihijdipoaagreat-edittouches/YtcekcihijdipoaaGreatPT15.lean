/- A pack of texts: EdLk, EdLc, Mesh8, Mesh9, Mesh10. -/
import Derived.Test.YtcekcihijdipoaaGreatPT14
import Derived.Test.YtcekcihijdipoaaGreatPT7
import Derived.Test.YtcekcihijdipoaaGreatPT9
import Derived.Test.YtcekcihijdipoaaGreatPT6
namespace Go.Proofs.YtcekcihijdipoaaGreat

section


open Go.RowKit Go.ChangeShapes Go.WideShapes Go.ChangeAt

set_option linter.unusedSimpArgs false

set_option linter.unusedVariables false

attribute [local go_sem] plus_size plus_drew dn_set dn_alloc dn_plus plus_dn cell_plus frozen_plus set_plus cell_alloc frozen_alloc set_alloc

def styMay (nt : Nat) (y : Sy) : Bool := styOk y && (decide (y.s1 = 0) || decide (y.l.tx < (nt : Int)))

def nmb (nm : Nat) (n : Nd) : Bool :=
  if n.f.kind = 1 ∨ n.f.kind = 3 then true else if n.f.kind = 2 then mayM n.f.m else if n.f.kind = 4 then all3 n.f.cen 4096 && distOk n.far else if n.f.kind = 5 then decide (0 ≤ n.f.mesh ∧ n.f.mesh < nm) else false

theorem sameI_nil (l : List Int) : sameI l [] = decide (l.length = 0) := by
  cases l with
  | nil => rfl
  | cons a l => exact (same_len (by simp)).trans (by simp)

theorem mayNd_named {nm nt : Nat} {n : Nd} (hs1 : 0 ≤ n.f.sty.s1) : mayNd nm nt n = (styMay nt n.f.sty && (sameNd n (namedNd n) && nmb nm n)) := by
  obtain ⟨⟨k, m, o, c, e, y⟩, f⟩ := n
  simp only at hs1
  have hty : (!(decide (0 < y.s1) && decide ((nt : Int) ≤ y.l.tx))) = (decide (y.s1 = 0) || decide (y.l.tx < (nt : Int))) := by
    by_cases h1 : y.s1 = 0 <;> by_cases h2 : y.l.tx < (nt : Int) <;> simp [h1, h2] <;> omega
  have hI : sameI f f = true := same_refl eqI_refl _
  unfold mayNd styMay sameNd namedNd namedF nmb
  simp only [hty, eqsy_refl, decide_true, Bool.true_and, Bool.and_true]
  generalize (decide (y.s1 = 0) || decide (y.l.tx < (nt : Int))) = b2
  generalize styOk y = b1
  have key : ∀ X, ((eqv c zeroV && decide (f.length = 0)) && (X && (all3 c 4096 && distOk f))) = ((eqv c zeroV && decide (f.length = 0)) && X) := by
    intro X
    cases hc : eqv c zeroV
    · rfl
    by_cases hf : f.length = 0
    · obtain rfl := eqv_eq hc
      obtain rfl := List.eq_nil_of_length_eq_zero hf
      rw [show all3 zeroV 4096 = true from rfl, show distOk [] = true from rfl, Bool.and_true, Bool.and_true]
    · rw [decide_eq_false hf]; rfl
  have k1 := key (decide (e = 0))
  clear key
  by_cases h1 : k = 1
  · subst h1
    simp only [Int.reduceEq, reduceIte, sameI_nil]
    generalize (all3 c 4096 && distOk f) = A at *
    generalize eqmt m zeroM = q1 at *
    generalize decide (o = 0) = q2 at *
    generalize eqv c zeroV = q3 at *
    generalize decide (f.length = 0) = q4 at *
    generalize decide (e = 0) = q5 at *
    revert k1
    cases b1 <;> cases b2 <;> cases q1 <;> cases q2 <;> cases q3 <;> cases q4 <;> cases q5 <;> cases A <;> simp
  by_cases h2 : k = 2
  · subst h2
    simp only [Int.reduceEq, reduceIte, sameI_nil, eqmt_refl]
    generalize (all3 c 4096 && distOk f) = A at *
    generalize mayM m = q1 at *
    generalize decide (o = 0) = q2 at *
    generalize eqv c zeroV = q3 at *
    generalize decide (f.length = 0) = q4 at *
    generalize decide (e = 0) = q5 at *
    revert k1
    cases b1 <;> cases b2 <;> cases q1 <;> cases q2 <;> cases q3 <;> cases q4 <;> cases q5 <;> cases A <;> simp
  by_cases h3 : k = 3
  · subst h3
    simp only [Int.reduceEq, reduceIte, sameI_nil]
    generalize (all3 c 4096 && distOk f) = A at *
    generalize eqmt m zeroM = q1 at *
    generalize eqv c zeroV = q3 at *
    generalize decide (f.length = 0) = q4 at *
    generalize decide (e = 0) = q5 at *
    revert k1
    cases b1 <;> cases b2 <;> cases q1 <;> cases q3 <;> cases q4 <;> cases q5 <;> cases A <;> simp
  by_cases h4 : k = 4
  · subst h4
    simp only [Int.reduceEq, reduceIte, eqv_refl, hI]
    generalize all3 c 4096 = q3 at *
    generalize distOk f = q4 at *
    generalize eqmt m zeroM = q1 at *
    generalize decide (o = 0) = q2 at *
    generalize decide (e = 0) = q5 at *
    clear k1
    cases b1 <;> cases b2 <;> cases q1 <;> cases q2 <;> cases q3 <;> cases q4 <;> cases q5 <;> simp
  by_cases h5 : k = 5
  · subst h5
    simp only [Int.reduceEq, reduceIte, sameI_nil]
    generalize decide (0 ≤ e ∧ e < (nm : Int)) = A at *
    generalize eqmt m zeroM = q1 at *
    generalize decide (o = 0) = q2 at *
    generalize eqv c zeroV = q3 at *
    generalize decide (f.length = 0) = q4 at *
    clear k1
    cases b1 <;> cases b2 <;> cases q1 <;> cases q2 <;> cases q3 <;> cases q4 <;> cases A <;> simp
  simp only [h1, h2, h3, h4, h5, false_or, if_false, Bool.and_false]
  rw [show decide (1 ≤ k ∧ k ≤ 5) = false from decide_eq_false (by omega), Bool.false_and]

theorem lsty_is {s0 s1 s2 s3 s4 vr vg vb va vt vc vi : Int} {vl : Bool} {vn : Int} {b : Bool} {w : World} (h : styOk ⟨s0, s1, s2, s3, s4, ⟨vr, vg, vb, va, vt, vc, vi, vl, vn⟩⟩ = b) (hB : SyB ⟨s0, s1, s2, s3, s4, ⟨vr, vg, vb, va, vt, vc, vi, vl, vn⟩⟩) :
    Calls Tryz.prog 92 #[.agg #[.int .u8 s0, .int .u8 s1, .int .u8 s2, .int .u8 s3, .int .u8 s4, .int .u8 vr, .int .u8 vg, .int .u8 vb, .int .u8 va, .int .i64 vt, .int .u8 vc, .int .i64 vi, .bool vl, .int .i64 vn]] w fun e w' => e = .returned (.int .i64 (if b then 0 else 8)) ∧ Below w.heap.size w w' := by
  have h2 := sty_calls s0 s1 s2 s3 s4 vr vg vb va vt vc vi vl vn hB w
  unfold styErr at h2
  rw [h] at h2
  exact h2

set_option maxHeartbeats 2000000 in
theorem styMay_calls (ga ka na ma ta : Option Addr) (gn gc kn kc nn nc mn mc tn tc : Nat) (r0 r1 : Int) (y : Sy) (hB : SyB y) (w : World) : Calls Tryz.prog 47 #[.agg #[.slice ga gn gc, .slice ka kn kc, .slice na nn nc, .slice ma mn mc, .slice ta tn tc, .int .i64 r0, .int .i64 r1], .agg (syL y).toArray] w fun e w' => e = .returned (.bool (styMay tn y)) ∧ ∃ y, w' = plus w y := by
  obtain ⟨s0, s1, s2, s3, s4, ⟨vr, vg, vb, va, vt, vc, vi, vl, vn⟩⟩ := y
  simp only [syL]
  cases hs : styOk ⟨s0, s1, s2, s3, s4, ⟨vr, vg, vb, va, vt, vc, vi, vl, vn⟩⟩
  · rw [show styMay tn ⟨s0, s1, s2, s3, s4, ⟨vr, vg, vb, va, vt, vc, vi, vl, vn⟩⟩ = false by rw [styMay, hs]; rfl]
    go_enter Tryz.func47, Tryz.ntmps47
    go_wp2_with (go_at_call 92; refine (plus_post (lsty_is hs hB)).mono ?_; rintro e w' ⟨rfl, nx, rfl⟩)
    go_ret
    exact ⟨rfl, sk9⟩
  have hr : styMay tn ⟨s0, s1, s2, s3, s4, ⟨vr, vg, vb, va, vt, vc, vi, vl, vn⟩⟩ = (decide (s1 = 0) || decide (vt < (tn : Int))) := by rw [styMay, hs]; rfl
  rw [hr]
  by_cases h0 : s1 = 0
  · subst h0
    go_enter Tryz.func47, Tryz.ntmps47
    go_wp2_with (go_at_call 92; refine (plus_post (lsty_is hs hB)).mono ?_; rintro e w' ⟨rfl, nx, rfl⟩)
    go_ret
    exact ⟨rfl, sk9⟩
  have d0 : (s1 == 0) = false := by rw [beq_eq_false_iff_ne]; exact h0
  rw [decide_eq_false h0, Bool.false_or]
  by_cases h1 : vt < (tn : Int)
  · have e1 := decide_eq_true h1
    rw [e1]
    go_enter Tryz.func47, Tryz.ntmps47
    go_wp2_with (go_at_call 92; refine (plus_post (lsty_is hs hB)).mono ?_; rintro e w' ⟨rfl, nx, rfl⟩)
    go_ret
    exact ⟨rfl, sk9⟩
  · have e1 := decide_eq_false h1
    rw [e1]
    go_enter Tryz.func47, Tryz.ntmps47
    go_wp2_with (go_at_call 92; refine (plus_post (lsty_is hs hB)).mono ?_; rintro e w' ⟨rfl, nx, rfl⟩)
    go_ret
    exact ⟨rfl, sk9⟩

theorem mat_at (m : Mt) {b : Bool} (h : mayM m = b) (w : World) : Calls Tryz.prog 94 #[.agg (mtL m).toArray] w fun e w' => e = .returned (.int .i64 (if b then 0 else 20)) ∧ Below w.heap.size w w' := by
  subst h
  obtain ⟨⟨⟨a, b, c⟩, ⟨d, o, f⟩, ⟨g, u, i⟩⟩, ⟨p, q, r⟩⟩ := m
  exact checkMat_calls a b c d o f g u i p q r w

theorem vec_at (v : V3) {b : Bool} (h : all3 v 4096 = b) (w : World) : Calls Tryz.prog 95 #[.agg (v3L v).toArray] w fun e w' => e = .returned (.int .i64 (if b then 0 else 20)) ∧ Below w.heap.size w w' := by
  subst h
  obtain ⟨a, b, c⟩ := v
  exact check_calls2 a b c w

theorem far_is {ao : Option Addr} {n cap : Nat} {l : List Int} {w : World} {b : Bool} (h : distOk l = b) (hl : Lay fI w ao n l) (hn : n ≤ 9223372036854775807) :
    Calls Tryz.prog 96 #[.slice ao n cap] w fun e w' => e = .returned (.bool b) ∧ ∃ y, w' = plus w y := h ▸ far_calls ao n cap l w hl hn

set_option maxRecDepth 100000 in
set_option maxHeartbeats 4000000 in
theorem nmb_calls (ga ka na ma ta : Option Addr) (gn gc kn kc nn nc mn mc tn tc : Nat) (r0 r1 : Int) (h : NH) (n : Nd) (w : World) (hN : NodeAt w h n) : Calls Tryz.prog 50 #[.agg #[.slice ga gn gc, .slice ka kn kc, .slice na nn nc, .slice ma mn mc, .slice ta tn tc, .int .i64 r0, .int .i64 r1], vN h] w fun e w' => e = .returned (.bool (nmb mn n)) ∧ ∃ y, w' = plus w y := by
  show Calls Tryz.prog 50 #[.agg #[.slice ga gn gc, .slice ka kn kc, .slice na nn nc, .slice ma mn mc, .slice ta tn tc, .int .i64 r0, .int .i64 r1], .agg (fN h).toArray] w fun e w' => e = .returned (.bool (nmb mn n)) ∧ ∃ y, w' = plus w y
  have hf := hN.f
  have hmt := mt_drop h
  have hv3 := v3_drop h
  have hkind := kind_at h
  have hfar := far_at h
  have hme : (fN h)[18]? = some (.int .i64 h.f.mesh) := rfl
  unfold nmb
  rw [← hf]
  obtain ⟨kd, hk⟩ : ∃ k, h.f.kind = k := ⟨_, rfl⟩
  rw [hk] at hkind ⊢
  obtain ⟨cs, hcs⟩ : ∃ cs, fN h = cs := ⟨_, rfl⟩
  rw [hcs] at hmt hv3 hkind hfar hme ⊢
  have hc : cs.length = 33 := by rw [← hcs]; rfl
  obtain ⟨b, hb⟩ : ∃ b, w.heap.size = b := ⟨_, rfl⟩
  clear hcs hf hk
  obtain ⟨v, hv⟩ : ∃ v, (if kd = 1 ∨ kd = 3 then true else if kd = 2 then mayM h.f.m else if kd = 4 then all3 h.f.cen 4096 && distOk n.far else if kd = 5 then decide (0 ≤ h.f.mesh ∧ h.f.mesh < (mn : Int)) else false) = v := ⟨_, rfl⟩
  rw [hv]
  replace hv := Hush9.mk hv
  go_enter Tryz.func50, Tryz.ntmps50
  go_upto_region 1 with fail
  refine name_w (fun w' => (∃ y, w' = plus w y) ∧ w'.heap[b]? = some (.cells #[.slice ga gn gc, .slice ka kn kc, .slice na nn nc, .slice ma mn mc, .slice ta tn tc, .int .i64 r0, .int .i64 r1] 34) ∧ w'.heap[b + 1]? = some (.cells cs.toArray 56)) ⟨sk9, hb ▸ blk_old (blk_new2 _ _), by rw [← hb, ← size_alloc w]; exact blk_new2 _ _⟩ ?_
  try simp only [hb]
  rintro w1 ⟨x1, k0, k1⟩
  have p0 := cell_of k1 hkind
  have p17 := cell_of k1 hfar
  have p18 := cell_of k1 hme
  have r2 := cell_blk (i := 3) k0 rfl
  have l1 := blk_lt k1
  have hl1 := hN.lay.ex x1
  have hle := hN.le
  by_cases h1 : kd = 1
  · subst h1
    go_wp2_with fail
    go_ret
    exact ⟨by rw [← hv.it]; simp , ex_trans x1 sk9⟩
  have d1 : (kd == 1) = false := by rw [beq_eq_false_iff_ne]; exact h1
  by_cases h3 : kd = 3
  · subst h3
    go_wp2_with fail
    go_ret
    exact ⟨by rw [← hv.it]; simp , ex_trans x1 sk9⟩
  have d3 : (kd == 3) = false := by rw [beq_eq_false_iff_ne]; exact h3
  by_cases h2 : kd = 2
  · subst h2
    cases hm : mayM h.f.m
    · go_wp2_with (first | (refine wpList_load_part rfl 45 _ rfl (b + 1) 1 rfl (mtL h.f.m) _ (fun j v hv => cell_of k1 (hmt j v hv)) Tryz.underlying45 rfl (by kernel_rfl) ?_) | (go_at_call 94; refine (plus_post (mat_at h.f.m hm _)).mono ?_; rintro e w' ⟨rfl, nx, rfl⟩))
      go_ret
      exact ⟨by rw [← hv.it]; simp [hm], ex_trans x1 sk9⟩
    · go_wp2_with (first | (refine wpList_load_part rfl 45 _ rfl (b + 1) 1 rfl (mtL h.f.m) _ (fun j v hv => cell_of k1 (hmt j v hv)) Tryz.underlying45 rfl (by kernel_rfl) ?_) | (go_at_call 94; refine (plus_post (mat_at h.f.m hm _)).mono ?_; rintro e w' ⟨rfl, nx, rfl⟩))
      go_ret
      exact ⟨by rw [← hv.it]; simp [hm], ex_trans x1 sk9⟩
  have d2 : (kd == 2) = false := by rw [beq_eq_false_iff_ne]; exact h2
  by_cases h4 : kd = 4
  · subst h4
    cases hm : all3 h.f.cen 4096
    · go_wp2_with (first | (refine wpList_load_part rfl 43 _ rfl (b + 1) 14 rfl (v3L h.f.cen) _ (fun j v hv => cell_of k1 (hv3 j v hv)) Tryz.underlying43 rfl (by kernel_rfl) ?_) | (go_at_call 95; refine (plus_post (vec_at h.f.cen hm _)).mono ?_; rintro e w' ⟨rfl, nx, rfl⟩) | (go_at_call 96; refine (far_is hd (hl1.ex sk9) hle).mono ?_; rintro e w' ⟨rfl, nx, rfl⟩))
      go_ret
      exact ⟨by rw [← hv.it]; simp [hm], ex_trans x1 sk9⟩
    · cases hd : distOk n.far
      · go_wp2_with (first | (refine wpList_load_part rfl 43 _ rfl (b + 1) 14 rfl (v3L h.f.cen) _ (fun j v hv => cell_of k1 (hv3 j v hv)) Tryz.underlying43 rfl (by kernel_rfl) ?_) | (go_at_call 95; refine (plus_post (vec_at h.f.cen hm _)).mono ?_; rintro e w' ⟨rfl, nx, rfl⟩) | (go_at_call 96; refine (far_is hd (hl1.ex sk9) hle).mono ?_; rintro e w' ⟨rfl, nx, rfl⟩))
        go_ret
        exact ⟨by rw [← hv.it]; simp [hm, hd], ex_trans x1 sk9⟩
      · go_wp2_with (first | (refine wpList_load_part rfl 43 _ rfl (b + 1) 14 rfl (v3L h.f.cen) _ (fun j v hv => cell_of k1 (hv3 j v hv)) Tryz.underlying43 rfl (by kernel_rfl) ?_) | (go_at_call 95; refine (plus_post (vec_at h.f.cen hm _)).mono ?_; rintro e w' ⟨rfl, nx, rfl⟩) | (go_at_call 96; refine (far_is hd (hl1.ex sk9) hle).mono ?_; rintro e w' ⟨rfl, nx, rfl⟩))
        go_ret
        exact ⟨by rw [← hv.it]; simp [hm, hd], ex_trans x1 sk9⟩
  have d4 : (kd == 4) = false := by rw [beq_eq_false_iff_ne]; exact h4
  by_cases h5 : kd = 5
  · subst h5
    by_cases m0 : 0 ≤ h.f.mesh
    · have e0 := decide_eq_true m0
      by_cases m1 : h.f.mesh < (mn : Int)
      · have e1 := decide_eq_true m1
        go_wp2_with fail
        go_ret
        exact ⟨by rw [← hv.it]; simp [m0, m1], ex_trans x1 sk9⟩
      · have e1 := decide_eq_false m1
        go_wp2_with fail
        go_ret
        exact ⟨by rw [← hv.it]; simp; omega, ex_trans x1 sk9⟩
    · have m0' : h.f.mesh < 0 := by omega
      have e0 := decide_eq_false m0
      go_wp2_with fail
      go_ret
      exact ⟨by rw [← hv.it]; simp; omega, ex_trans x1 sk9⟩
  have d5 : (kd == 5) = false := by rw [beq_eq_false_iff_ne]; exact h5
  go_wp2_with fail
  go_ret
  exact ⟨by rw [← hv.it]; simp [h1, h2, h3, h4, h5], ex_trans x1 sk9⟩

end

section


open Go.RowKit Go.ChangeShapes Go.WideShapes Go.ChangeAt

set_option linter.unusedSimpArgs false

set_option linter.unusedVariables false

attribute [local go_sem] plus_size plus_drew dn_set dn_alloc dn_plus plus_dn cell_plus frozen_plus set_plus cell_alloc frozen_alloc set_alloc

theorem styMay_is {ga ka na ma ta : Option Addr} {gn gc kn kc nn nc mn mc tn tc : Nat} {r0 r1 : Int} {y : Sy} (hB : SyB y) {w : World} {b : Bool} (h : styMay tn y = b) : Calls Tryz.prog 47 #[.agg #[.slice ga gn gc, .slice ka kn kc, .slice na nn nc, .slice ma mn mc, .slice ta tn tc, .int .i64 r0, .int .i64 r1], .agg (syL y).toArray] w fun e w' => e = .returned (.bool b) ∧ ∃ y, w' = plus w y := h ▸ styMay_calls ga ka na ma ta gn gc kn kc nn nc mn mc tn tc r0 r1 y hB w

theorem nmb_is {ga ka na ma ta : Option Addr} {gn gc kn kc nn nc mn mc tn tc : Nat} {r0 r1 : Int} {h : NH} {n : Nd} {w : World} (hN : NodeAt w h n) {b : Bool} (hb : nmb mn n = b) : Calls Tryz.prog 50 #[.agg #[.slice ga gn gc, .slice ka kn kc, .slice na nn nc, .slice ma mn mc, .slice ta tn tc, .int .i64 r0, .int .i64 r1], vN h] w fun e w' => e = .returned (.bool b) ∧ ∃ y, w' = plus w y := hb ▸ nmb_calls ga ka na ma ta gn gc kn kc nn nc mn mc tn tc r0 r1 h n w hN

set_option maxRecDepth 100000 in
set_option maxHeartbeats 4000000 in
theorem lcheckNd_calls (ga ka na ma ta : Option Addr) (gn gc kn kc nn nc mn mc tn tc : Nat) (r0 r1 : Int) (h : NH) (n : Nd) (w : World) (hN : NodeAt w h n) (s1 : h.n ≤ 10000) : Calls Tryz.prog 17 #[.agg #[.slice ga gn gc, .slice ka kn kc, .slice na nn nc, .slice ma mn mc, .slice ta tn tc, .int .i64 r0, .int .i64 r1], vN h] w fun e w' => e = .returned (.int .i64 (if mayNd mn tn n then 0 else 8)) ∧ ∃ y, w' = plus w y := by
  show Calls Tryz.prog 17 #[.agg #[.slice ga gn gc, .slice ka kn kc, .slice na nn nc, .slice ma mn mc, .slice ta tn tc, .int .i64 r0, .int .i64 r1], .agg (fN h).toArray] w fun e w' => e = .returned (.int .i64 (if mayNd mn tn n then 0 else 8)) ∧ ∃ y, w' = plus w y
  have hN2 := namedNd_at hN
  have s2 : (namedH h).n ≤ 10000 := by unfold namedH; split <;> simp [s1]
  have hB : SyB h.f.sty := by rw [hN.f]; exact hN.b.sty
  have hr := mayNd_named (nm := mn) (nt := tn) (n := n) (by rw [← hN.f]; exact hB.s1.1)
  have hsty := sty_drop h
  rw [← hN.f] at hr
  obtain ⟨b1, hb1⟩ : ∃ b, styMay tn h.f.sty = b := ⟨_, rfl⟩
  obtain ⟨b2, hb2⟩ : ∃ b, sameNd n (namedNd n) = b := ⟨_, rfl⟩
  obtain ⟨b3, hb3⟩ : ∃ b, nmb mn n = b := ⟨_, rfl⟩
  rw [hb1, hb2, hb3] at hr
  rw [hr]
  clear hr
  obtain ⟨b, hb⟩ : ∃ b, w.heap.size = b := ⟨_, rfl⟩
  go_enter Tryz.func17, Tryz.ntmps17
  go_upto_region 1 with fail
  refine name_w (fun w' => (∃ y, w' = plus w y) ∧ w'.heap[b]? = some (.cells #[.slice ga gn gc, .slice ka kn kc, .slice na nn nc, .slice ma mn mc, .slice ta tn tc, .int .i64 r0, .int .i64 r1] 34) ∧ w'.heap[b + 1]? = some (.cells (fN h).toArray 56)) ⟨sk9, hb ▸ blk_old (blk_new2 _ _), by rw [← hb, ← size_alloc w]; exact blk_new2 _ _⟩ ?_
  try simp only [hb]
  rintro w1 ⟨x1, k0, k1⟩
  have c0 := cell_blk (i := 0) k0 rfl
  have c1 := cell_blk (i := 1) k0 rfl
  have c2 := cell_blk (i := 2) k0 rfl
  have c3 := cell_blk (i := 3) k0 rfl
  have c4 := cell_blk (i := 4) k0 rfl
  have c5 := cell_blk (i := 5) k0 rfl
  have c6 := cell_blk (i := 6) k0 rfl
  have hNa := hN.ex x1
  have hNb := hN2.ex x1
  replace hsty := Hush9.mk hsty
  have l1 := blk_lt k1
  cases b1
  · refine region_plus (by kernel_rfl) (by kernel_rfl) ?_
    (repeat (first | go_big_quiet_skip | (refine wpQuiet_load_guarded 54 _ rfl (b + 1) 19 rfl (syL h.f.sty) _ (fun w' hw j v hj => cell_ex hw (cell_of k1 (hsty.it j v hj))) Tryz.underlying54 rfl (by kernel_rfl) (by kernel_rfl) ?_; simp only [Act.put, List.setIfInBounds_toArray, List.set_cons_succ, List.set_cons_zero]) | (refine wpQuiet_load_guarded 56 _ rfl (b + 1) 0 rfl (fN h) _ (fun w' hw j v hj => cell_ex hw (by rw [Nat.zero_add]; exact cell_of k1 hj)) Tryz.underlying56 rfl (by kernel_rfl) (by kernel_rfl) ?_; simp only [Act.put, List.setIfInBounds_toArray, List.set_cons_succ, List.set_cons_zero]) | go_big_quiet_step (first | (go_at_call 47; exact q9_of (styMay_is hB hb1)) | (go_at_call 49; exact q9_of (named_calls h _)) | (go_at_call 48; exact q9_of (lsameNd_at (hNa.ex sk9) (hNb.ex sk9) s1 s2 hb2)) | (go_at_call 50; exact q9_of (nmb_is (hNa.ex sk9) hb3)))))
    refine wpQuiet_nil ?_
    rintro _ ⟨x2, rfl⟩
    go_wp2
    go_ret
    exact ⟨rfl, ex_trans x1 sk9⟩
  cases b2
  · refine region_plus (by kernel_rfl) (by kernel_rfl) ?_
    (repeat (first | go_big_quiet_skip | (refine wpQuiet_load_guarded 54 _ rfl (b + 1) 19 rfl (syL h.f.sty) _ (fun w' hw j v hj => cell_ex hw (cell_of k1 (hsty.it j v hj))) Tryz.underlying54 rfl (by kernel_rfl) (by kernel_rfl) ?_; simp only [Act.put, List.setIfInBounds_toArray, List.set_cons_succ, List.set_cons_zero]) | (refine wpQuiet_load_guarded 56 _ rfl (b + 1) 0 rfl (fN h) _ (fun w' hw j v hj => cell_ex hw (by rw [Nat.zero_add]; exact cell_of k1 hj)) Tryz.underlying56 rfl (by kernel_rfl) (by kernel_rfl) ?_; simp only [Act.put, List.setIfInBounds_toArray, List.set_cons_succ, List.set_cons_zero]) | go_big_quiet_step (first | (go_at_call 47; exact q9_of (styMay_is hB hb1)) | (go_at_call 49; exact q9_of (named_calls h _)) | (go_at_call 48; exact q9_of (lsameNd_at (hNa.ex sk9) (hNb.ex sk9) s1 s2 hb2)) | (go_at_call 50; exact q9_of (nmb_is (hNa.ex sk9) hb3)))))
    refine wpQuiet_nil ?_
    rintro _ ⟨x2, rfl⟩
    go_wp2
    go_ret
    exact ⟨rfl, ex_trans x1 sk9⟩
  cases b3
  · refine region_plus (by kernel_rfl) (by kernel_rfl) ?_
    (repeat (first | go_big_quiet_skip | (refine wpQuiet_load_guarded 54 _ rfl (b + 1) 19 rfl (syL h.f.sty) _ (fun w' hw j v hj => cell_ex hw (cell_of k1 (hsty.it j v hj))) Tryz.underlying54 rfl (by kernel_rfl) (by kernel_rfl) ?_; simp only [Act.put, List.setIfInBounds_toArray, List.set_cons_succ, List.set_cons_zero]) | (refine wpQuiet_load_guarded 56 _ rfl (b + 1) 0 rfl (fN h) _ (fun w' hw j v hj => cell_ex hw (by rw [Nat.zero_add]; exact cell_of k1 hj)) Tryz.underlying56 rfl (by kernel_rfl) (by kernel_rfl) ?_; simp only [Act.put, List.setIfInBounds_toArray, List.set_cons_succ, List.set_cons_zero]) | go_big_quiet_step (first | (go_at_call 47; exact q9_of (styMay_is hB hb1)) | (go_at_call 49; exact q9_of (named_calls h _)) | (go_at_call 48; exact q9_of (lsameNd_at (hNa.ex sk9) (hNb.ex sk9) s1 s2 hb2)) | (go_at_call 50; exact q9_of (nmb_is (hNa.ex sk9) hb3)))))
    refine wpQuiet_nil ?_
    rintro _ ⟨x2, rfl⟩
    go_wp2
    go_ret
    exact ⟨rfl, ex_trans x1 sk9⟩
  · refine region_plus (by kernel_rfl) (by kernel_rfl) ?_
    (repeat (first | go_big_quiet_skip | (refine wpQuiet_load_guarded 54 _ rfl (b + 1) 19 rfl (syL h.f.sty) _ (fun w' hw j v hj => cell_ex hw (cell_of k1 (hsty.it j v hj))) Tryz.underlying54 rfl (by kernel_rfl) (by kernel_rfl) ?_; simp only [Act.put, List.setIfInBounds_toArray, List.set_cons_succ, List.set_cons_zero]) | (refine wpQuiet_load_guarded 56 _ rfl (b + 1) 0 rfl (fN h) _ (fun w' hw j v hj => cell_ex hw (by rw [Nat.zero_add]; exact cell_of k1 hj)) Tryz.underlying56 rfl (by kernel_rfl) (by kernel_rfl) ?_; simp only [Act.put, List.setIfInBounds_toArray, List.set_cons_succ, List.set_cons_zero]) | go_big_quiet_step (first | (go_at_call 47; exact q9_of (styMay_is hB hb1)) | (go_at_call 49; exact q9_of (named_calls h _)) | (go_at_call 48; exact q9_of (lsameNd_at (hNa.ex sk9) (hNb.ex sk9) s1 s2 hb2)) | (go_at_call 50; exact q9_of (nmb_is (hNa.ex sk9) hb3)))))
    refine wpQuiet_nil ?_
    rintro _ ⟨x2, rfl⟩
    go_wp2
    go_ret
    exact ⟨rfl, ex_trans x1 sk9⟩

theorem lcheckNd_is {ga ka na ma ta : Option Addr} {gn gc kn kc nn nc mn mc tn tc : Nat} {r0 r1 : Int} {h : NH} {n : Nd} {w : World} (hN : NodeAt w h n) (s1 : h.n ≤ 10000) {b : Bool} (hb : mayNd mn tn n = b) : Calls Tryz.prog 17 #[.agg #[.slice ga gn gc, .slice ka kn kc, .slice na nn nc, .slice ma mn mc, .slice ta tn tc, .int .i64 r0, .int .i64 r1], vN h] w fun e w' => e = .returned (.int .i64 (if b then 0 else 8)) ∧ ∃ y, w' = plus w y := hb ▸ lcheckNd_calls ga ka na ma ta gn gc kn kc nn nc mn mc tn tc r0 r1 h n w hN s1

end

section


open Go.RowKit Go.ChangeShapes Go.WideShapes Go.ChangeAt

set_option linter.unusedSimpArgs false

set_option linter.unusedVariables false

attribute [local go_sem] plus_size plus_drew dn_set dn_alloc dn_plus plus_dn cell_plus frozen_plus set_plus cell_alloc frozen_alloc set_alloc

attribute [local go_sem] eqarr_40 nearr_40 larr_40

attribute [local go_sem] eqarr_137 nearr_137 larr_137

attribute [local go_sem] isnil_47

attribute [local go_sem] isnil_57

attribute [local go_sem] isnil_58

attribute [local go_sem] isnil_59

set_option maxHeartbeats 2000000 in
theorem corners_calls (ao : Option Addr) (n cap : Nat) (l : List V3) (w : World) (hl : Lay fV w ao n l) (hn : n ≤ 10000) :
    Calls Tryz.prog 134 #[.slice ao n cap] w fun e w' => e = .returned (.bool (l.all vOk)) ∧ Below w.heap.size w w' := by
  have hlen := hl.len
  go_enter Tryz.func134, Tryz.ntmps134
  go_wp2
  go_loopw [7] (fun i wr => ∃ k : Nat, k ≤ n ∧ i = .int .i64 k ∧ (∀ j, j < k → vOk (nth zeroV l j) = true) ∧ ∃ x, wr = plus w x) (fun i _ => n - (intOf i).toNat)
  case atStart => exact ⟨0, Nat.zero_le _, rfl, fun j hj => by omega, skM⟩
  case round =>
    obtain ⟨k, hk, rfl, hs, x, rfl⟩ := hrel
    by_cases hkl : k < n
    · obtain ⟨g, off, rfl, hg, hcell⟩ := hl.some (by omega)
      obtain ⟨c0, c1, c2⟩ := cellV hlen hcell hkl
      have ik : (k : Int) < (n : Int) := by omega
      cases ho : vOk (nth zeroV l k)
      · have ho' : [(nth zeroV l k).x, (nth zeroV l k).y, (nth zeroV l k).z].all (inR (-1024) 1024) = false := ho
        go_wp2_with (go_at_call 172; refine (plus_post (within_calls (-1024) 1024 _ 3 _ [(nth zeroV l k).x, (nth zeroV l k).y, (nth zeroV l k).z] _ ⟨rfl, .inr ⟨_, 0, rfl, by simp [go_sem]; try omega, fun jj u hu => by match jj, hu with | 0, hu => (simp [fI] at hu; subst hu; simp [go_sem, ↓IntWalk.iteOmega]) | 1, hu => (simp [fI] at hu; subst hu; simp [go_sem, ↓IntWalk.iteOmega]) | 2, hu => (simp [fI] at hu; subst hu; simp [go_sem, ↓IntWalk.iteOmega]) | jj + 3, hu => simp [fI] at hu⟩⟩ (by decide))).mono ?_; rintro e w' ⟨rfl, nx, rfl⟩; rw [ho'])
        go_ret
        exact ⟨by rw [all_not (d := zeroV) (k := k) (by omega) ho]; rfl, skB⟩
      · have ho' : [(nth zeroV l k).x, (nth zeroV l k).y, (nth zeroV l k).z].all (inR (-1024) 1024) = true := ho
        go_wp2_with (go_at_call 172; refine (plus_post (within_calls (-1024) 1024 _ 3 _ [(nth zeroV l k).x, (nth zeroV l k).y, (nth zeroV l k).z] _ ⟨rfl, .inr ⟨_, 0, rfl, by simp [go_sem]; try omega, fun jj u hu => by match jj, hu with | 0, hu => (simp [fI] at hu; subst hu; simp [go_sem, ↓IntWalk.iteOmega]) | 1, hu => (simp [fI] at hu; subst hu; simp [go_sem, ↓IntWalk.iteOmega]) | 2, hu => (simp [fI] at hu; subst hu; simp [go_sem, ↓IntWalk.iteOmega]) | jj + 3, hu => simp [fI] at hu⟩⟩ (by decide))).mono ?_; rintro e w' ⟨rfl, nx, rfl⟩; rw [ho'])
        go_roundw
        case rel => exact ⟨k + 1, by omega, by go_num, upto_succM hs ho, skM⟩
        case measure => simp [intOf]; omega
    · have ik : ¬ (k : Int) < (n : Int) := by omega
      go_wp2
      go_ret
      exact ⟨by rw [all_yes (d := zeroV) (fun j hj => hs j (by omega))]; rfl, skB⟩

set_option maxHeartbeats 2000000 in
theorem places_calls (ao : Option Addr) (n cap : Nat) (l : List (Int × Int)) (w : World) (hl : Lay f2 w ao n l) (hn : n ≤ 10000) :
    Calls Tryz.prog 135 #[.slice ao n cap] w fun e w' => e = .returned (.bool (l.all uOk)) ∧ Below w.heap.size w w' := by
  have hlen := hl.len
  go_enter Tryz.func135, Tryz.ntmps135
  go_wp2
  go_loopw [7] (fun i wr => ∃ k : Nat, k ≤ n ∧ i = .int .i64 k ∧ (∀ j, j < k → uOk (nth (0, 0) l j) = true) ∧ ∃ x, wr = plus w x) (fun i _ => n - (intOf i).toNat)
  case atStart => exact ⟨0, Nat.zero_le _, rfl, fun j hj => by omega, skM⟩
  case round =>
    obtain ⟨k, hk, rfl, hs, x, rfl⟩ := hrel
    by_cases hkl : k < n
    · obtain ⟨g, off, rfl, hg, hcell⟩ := hl.some (by omega)
      obtain ⟨c0, c1⟩ := cell2 hlen hcell hkl
      have ik : (k : Int) < (n : Int) := by omega
      cases ho : uOk (nth (0, 0) l k)
      · have ho' : [(nth (0, 0) l k).1, (nth (0, 0) l k).2].all (inR (0) 255) = false := ho
        go_wp2_with (go_at_call 172; refine (plus_post (within_calls (0) 255 _ 2 _ [(nth (0, 0) l k).1, (nth (0, 0) l k).2] _ ⟨rfl, .inr ⟨_, 0, rfl, by simp [go_sem]; try omega, fun jj u hu => by match jj, hu with | 0, hu => (simp [fI] at hu; subst hu; simp [go_sem, ↓IntWalk.iteOmega]) | 1, hu => (simp [fI] at hu; subst hu; simp [go_sem, ↓IntWalk.iteOmega]) | jj + 2, hu => simp [fI] at hu⟩⟩ (by decide))).mono ?_; rintro e w' ⟨rfl, nx, rfl⟩; rw [ho'])
        go_ret
        exact ⟨by rw [all_not (d := (0, 0)) (k := k) (by omega) ho]; rfl, skB⟩
      · have ho' : [(nth (0, 0) l k).1, (nth (0, 0) l k).2].all (inR (0) 255) = true := ho
        go_wp2_with (go_at_call 172; refine (plus_post (within_calls (0) 255 _ 2 _ [(nth (0, 0) l k).1, (nth (0, 0) l k).2] _ ⟨rfl, .inr ⟨_, 0, rfl, by simp [go_sem]; try omega, fun jj u hu => by match jj, hu with | 0, hu => (simp [fI] at hu; subst hu; simp [go_sem, ↓IntWalk.iteOmega]) | 1, hu => (simp [fI] at hu; subst hu; simp [go_sem, ↓IntWalk.iteOmega]) | jj + 2, hu => simp [fI] at hu⟩⟩ (by decide))).mono ?_; rintro e w' ⟨rfl, nx, rfl⟩; rw [ho'])
        go_roundw
        case rel => exact ⟨k + 1, by omega, by go_num, upto_succM hs ho, skM⟩
        case measure => simp [intOf]; omega
    · have ik : ¬ (k : Int) < (n : Int) := by omega
      go_wp2
      go_ret
      exact ⟨by rw [all_yes (d := (0, 0)) (fun j hj => hs j (by omega))]; rfl, skB⟩

end

section


open Go.RowKit Go.ChangeShapes Go.WideShapes Go.ChangeAt

set_option linter.unusedSimpArgs false

set_option linter.unusedVariables false

attribute [local go_sem] plus_size plus_drew dn_set dn_alloc dn_plus plus_dn cell_plus frozen_plus set_plus cell_alloc frozen_alloc set_alloc

attribute [local go_sem] eqarr_40 nearr_40 larr_40

attribute [local go_sem] eqarr_137 nearr_137 larr_137

attribute [local go_sem] isnil_47

attribute [local go_sem] isnil_57

attribute [local go_sem] isnil_58

attribute [local go_sem] isnil_59

set_option maxHeartbeats 4000000 in
theorem primsMay_calls (va ua pa : Option Addr) (vn vc un uc pn pc : Nat) (hs : List PH) (ps : List Pr) (w : World) (hpl : Lay fP w pa pn hs) (hpp : PrimsAt w hs ps) (hvn : vn ≤ 10000) (hpn : pn ≤ 10000) :
    Calls Tryz.prog 136 #[.agg #[.slice va vn vc, .slice ua un uc, .slice pa pn pc]] w fun e w' => e = .returned (.bool (psOk vn ps)) ∧ Below w.heap.size w w' := by
  have hpl1 := hpl.len
  have hpl2 := hpp.len
  have iwv : IntKind.i64.wrap ((vn : Int) - 1) = (vn : Int) - 1 := by
    simp [IntKind.wrap, IntKind.bits, IntKind.signed]
    omega
  go_enter Tryz.func136, Tryz.ntmps136
  go_wp2
  go_loopw [3, 11] (fun c i wr => ∃ k : Nat, k ≤ pn ∧ c = .int .i64 (trisN ps k) ∧ i = .int .i64 k ∧ (∀ j, j < k → pOk vn (nth dPr ps j) = true) ∧ ∃ x, wr = plus (w.alloc (.cells #[.slice va vn vc, .slice ua un uc, .slice pa pn pc] 61)) x) (fun _ i _ => pn - (intOf i).toNat)
  case atStart => exact ⟨0, Nat.zero_le _, rfl, rfl, fun j hj => by omega, skM⟩
  case round =>
    obtain ⟨k, hk, rfl, rfl, hs1, x, rfl⟩ := hrel
    have hT := trisN_le (ps := ps) (k := k) (by omega) (ps_errs hs1)
    by_cases hkl : k < pn
    · obtain ⟨g, off, rfl, hg, hcell⟩ := hpl.some (by omega)
      have hsucc := trisN_succ (ps := ps) (k := k) (by omega)
      obtain ⟨d0, d1⟩ := cellP hpl.len hcell (k := k) hkl
      have hp := hpp.one k (by rw [hpl.len]; exact hkl)
      generalize hpe : nth dPr ps k = p at *
      generalize hhe : nth dPH hs k = hh at *
      obtain ⟨kind, ao1, n1, cap1⟩ := hh
      obtain ⟨kind2, ix⟩ := p
      obtain ⟨hk1, hk2, hk3, hk4, hk5, hk6⟩ := hp
      simp only at d0 d1 hk1 hk2 hk3 hk4 hk5 hk6
      subst hk1
      have ik : (k : Int) < (pn : Int) := by omega
      have hixl := hk6.len
      rcases prErr_or ⟨kind, ix⟩ with he | he | he | he
      · go_wp2_with (go_at_call 173; refine (mprim_calls _ _ _ _ ix _ hk2 (hk6.ex snM) hk4).mono ?_; rintro e w1 ⟨ao2, m1, cap2, rfl, hw1, hl1⟩; rw [he]; have a0 : w1.cell? ⟨w.heap.size, 0, none⟩ = some (.slice va vn vc) := cell_ex hw1 (by simp [go_sem, ↓IntWalk.iteOmega]); have a1 : w1.cell? ⟨w.heap.size + 1 + (blocks x).size, 1, none⟩ = some (.slice ao1 n1 cap1) := cell_ex hw1 (by simp [go_sem, ↓IntWalk.iteOmega]); have hz1 := cell_lt a0; have hz2 := cell_lt a1)
        go_ret
        exact ⟨by rw [show psOk vn ps = false by rw [psOk, all_not (d := dPr) (k := k) (by omega) (by rw [hpe]; exact pOk_not1 (by rw [he]; decide)), Bool.false_and]]; rfl, below_ex snM⟩
      · go_wp2_with (go_at_call 173; refine (mprim_calls _ _ _ _ ix _ hk2 (hk6.ex snM) hk4).mono ?_; rintro e w1 ⟨ao2, m1, cap2, rfl, hw1, hl1⟩; rw [he]; have a0 : w1.cell? ⟨w.heap.size, 0, none⟩ = some (.slice va vn vc) := cell_ex hw1 (by simp [go_sem, ↓IntWalk.iteOmega]); have a1 : w1.cell? ⟨w.heap.size + 1 + (blocks x).size, 1, none⟩ = some (.slice ao1 n1 cap1) := cell_ex hw1 (by simp [go_sem, ↓IntWalk.iteOmega]); have hz1 := cell_lt a0; have hz2 := cell_lt a1)
        go_ret
        exact ⟨by rw [show psOk vn ps = false by rw [psOk, all_not (d := dPr) (k := k) (by omega) (by rw [hpe]; exact pOk_not1 (by rw [he]; decide)), Bool.false_and]]; rfl, below_ex snM⟩
      · go_wp2_with (go_at_call 173; refine (mprim_calls _ _ _ _ ix _ hk2 (hk6.ex snM) hk4).mono ?_; rintro e w1 ⟨ao2, m1, cap2, rfl, hw1, hl1⟩; rw [he]; have a0 : w1.cell? ⟨w.heap.size, 0, none⟩ = some (.slice va vn vc) := cell_ex hw1 (by simp [go_sem, ↓IntWalk.iteOmega]); have a1 : w1.cell? ⟨w.heap.size + 1 + (blocks x).size, 1, none⟩ = some (.slice ao1 n1 cap1) := cell_ex hw1 (by simp [go_sem, ↓IntWalk.iteOmega]); have hz1 := cell_lt a0; have hz2 := cell_lt a1)
        go_ret
        exact ⟨by rw [show psOk vn ps = false by rw [psOk, all_not (d := dPr) (k := k) (by omega) (by rw [hpe]; exact pOk_not1 (by rw [he]; decide)), Bool.false_and]]; rfl, below_ex snM⟩
      have h200 := ix_200 he
      have h200' := prTris_200 he
      simp only at h200
      cases hi : ix.all (inR 0 ((vn : Int) - 1))
      · go_wp2_with (first | (go_at_call 173; refine (mprim_calls _ _ _ _ ix _ hk2 (hk6.ex snM) hk4).mono ?_; rintro e w1 ⟨ao2, m1, cap2, rfl, hw1, hl1⟩; rw [he]; have a0 : w1.cell? ⟨w.heap.size, 0, none⟩ = some (.slice va vn vc) := cell_ex hw1 (by simp [go_sem, ↓IntWalk.iteOmega]); have a1 : w1.cell? ⟨w.heap.size + 1 + (blocks x).size, 1, none⟩ = some (.slice ao1 n1 cap1) := cell_ex hw1 (by simp [go_sem, ↓IntWalk.iteOmega]); have hz1 := cell_lt a0; have hz2 := cell_lt a1) | (go_at_call 172; refine (plus_post (within_calls _ _ _ _ _ ix _ (hk6.ex snM) (by omega))).mono ?_; rintro e w' ⟨rfl, nx, rfl⟩; rw [hi]))
        go_ret
        exact ⟨by rw [show psOk vn ps = false by rw [psOk, all_not (d := dPr) (k := k) (by omega) (by rw [hpe]; exact pOk_not2 hi), Bool.false_and]]; rfl, below_ex snM⟩
      · have hm1 : ∀ m1 : Nat, (prList ⟨kind, ix⟩).length = m1 → trisN ps (k + 1) = trisN ps k + m1 := by
          intro m1 h1
          rw [prList_good he] at h1
          rw [hsucc, h1]
        go_wp2_with (first | (go_at_call 173; refine (mprim_calls _ _ _ _ ix _ hk2 (hk6.ex snM) hk4).mono ?_; rintro e w1 ⟨ao2, m1, cap2, rfl, hw1, hl1⟩; rw [he]; have a0 : w1.cell? ⟨w.heap.size, 0, none⟩ = some (.slice va vn vc) := cell_ex hw1 (by simp [go_sem, ↓IntWalk.iteOmega]); have a1 : w1.cell? ⟨w.heap.size + 1 + (blocks x).size, 1, none⟩ = some (.slice ao1 n1 cap1) := cell_ex hw1 (by simp [go_sem, ↓IntWalk.iteOmega]); have hz1 := cell_lt a0; have hz2 := cell_lt a1; have hsc := hm1 m1 hl1.len; have iws : IntKind.i64.wrap ((trisN ps k : Int) + (m1 : Int)) = (trisN ps k : Int) + (m1 : Int) := wrap_leM (by omega)) | (go_at_call 172; refine (plus_post (within_calls _ _ _ _ _ ix _ (hk6.ex snM) (by omega))).mono ?_; rintro e w' ⟨rfl, nx, rfl⟩; rw [hi]))
        go_roundw
        case rel => exact ⟨k + 1, by omega, by go_num, by go_num, upto_succM hs1 (by rw [hpe]; exact pOk_yes he hi), snM⟩
        case measure => simp [intOf]; omega
    · have ik : ¬ (k : Int) < (pn : Int) := by omega
      obtain rfl : k = pn := by omega
      by_cases h64 : trisN ps k ≤ 64
      · have i64 : (trisN ps k : Int) ≤ 64 := by omega
        go_wp2
        go_ret
        exact ⟨by rw [show psOk vn ps = true by rw [psOk, all_yes (d := dPr) (fun j hj => hs1 j (by omega)), Bool.true_and, ← hpl2, hpl1, decide_eq_true h64]]; rfl, skB⟩
      · have i64 : ¬ (trisN ps k : Int) ≤ 64 := by omega
        have d64 : decide ((trisN ps k : Int) ≤ 64) = false := decide_eq_false i64
        go_wp2
        go_ret
        exact ⟨by rw [show psOk vn ps = false by rw [psOk, ← hpl2, hpl1, decide_eq_false h64, Bool.and_false]]; rfl, skB⟩

end

section


open Go.RowKit Go.ChangeShapes Go.WideShapes Go.ChangeAt

set_option linter.unusedSimpArgs false

set_option linter.unusedVariables false

attribute [local go_sem] plus_size plus_drew dn_set dn_alloc dn_plus plus_dn cell_plus frozen_plus set_plus cell_alloc frozen_alloc set_alloc

attribute [local go_sem] eqarr_40 nearr_40 larr_40

attribute [local go_sem] eqarr_137 nearr_137 larr_137

attribute [local go_sem] isnil_47

attribute [local go_sem] isnil_57

attribute [local go_sem] isnil_58

attribute [local go_sem] isnil_59

set_option maxHeartbeats 4000000 in
theorem check_callsM (va ua pa : Option Addr) (vn vc un uc pn pc : Nat) (hs : List PH) (m : Ms) (w : World) (hm : MeshAt w ⟨va, vn, vc, ua, un, uc, pa, pn, pc⟩ hs m) :
    Calls Tryz.prog 77 #[.agg #[.slice va vn vc, .slice ua un uc, .slice pa pn pc]] w fun e w' => e = .returned (.int .i64 (msErr m)) ∧ Below w.heap.size w w' := by
  have hvl : Lay fV w va vn m.vs := hm.vl
  have hul : Lay f2 w ua un m.uv := hm.ul
  have hpl : Lay fP w pa pn hs := hm.pl
  have hpp : PrimsAt w hs m.ps := hm.pp
  have lv := hvl.len
  have lu := hul.len
  have lp := hpl.len
  have lq := hpp.len
  by_cases h1 : 64 < vn
  · rw [show msErr m = 4 from if_pos (.inl (by omega))]
    have i1 : (64 : Int) < (vn : Int) := by omega
    go_enter Tryz.func77, Tryz.ntmps77
    go_wp2_with (first | (go_at_call 134; refine (plus_post (corners_calls _ _ _ m.vs _ (hvl.ex skM) (by omega))).mono ?_; rintro e w' ⟨rfl, nx, rfl⟩; rw [hv]) | (go_at_call 135; refine (plus_post (places_calls _ _ _ m.uv _ (hul.ex skM) (by omega))).mono ?_; rintro e w' ⟨rfl, nx, rfl⟩; rw [hu]) | (go_at_call 136; refine (plus_post (primsMay_calls _ _ _ _ _ _ _ _ _ hs m.ps _ (hpl.ex skM) (hpp.ex skM) (by omega) (by omega))).mono ?_; rintro e w' ⟨rfl, nx, rfl⟩; rw [hp]))
    go_ret
    exact ⟨rfl, skB⟩
  have i1 : ¬ (64 : Int) < (vn : Int) := by omega
  by_cases h2 : 64 < un
  · rw [show msErr m = 4 from if_pos (.inr (.inl (by omega)))]
    have i2 : (64 : Int) < (un : Int) := by omega
    go_enter Tryz.func77, Tryz.ntmps77
    go_wp2_with (first | (go_at_call 134; refine (plus_post (corners_calls _ _ _ m.vs _ (hvl.ex skM) (by omega))).mono ?_; rintro e w' ⟨rfl, nx, rfl⟩; rw [hv]) | (go_at_call 135; refine (plus_post (places_calls _ _ _ m.uv _ (hul.ex skM) (by omega))).mono ?_; rintro e w' ⟨rfl, nx, rfl⟩; rw [hu]) | (go_at_call 136; refine (plus_post (primsMay_calls _ _ _ _ _ _ _ _ _ hs m.ps _ (hpl.ex skM) (hpp.ex skM) (by omega) (by omega))).mono ?_; rintro e w' ⟨rfl, nx, rfl⟩; rw [hp]))
    go_ret
    exact ⟨rfl, skB⟩
  have i2 : ¬ (64 : Int) < (un : Int) := by omega
  by_cases h3 : 16 < pn
  · rw [show msErr m = 4 from if_pos (.inr (.inr (by omega)))]
    have i3 : (16 : Int) < (pn : Int) := by omega
    go_enter Tryz.func77, Tryz.ntmps77
    go_wp2_with (first | (go_at_call 134; refine (plus_post (corners_calls _ _ _ m.vs _ (hvl.ex skM) (by omega))).mono ?_; rintro e w' ⟨rfl, nx, rfl⟩; rw [hv]) | (go_at_call 135; refine (plus_post (places_calls _ _ _ m.uv _ (hul.ex skM) (by omega))).mono ?_; rintro e w' ⟨rfl, nx, rfl⟩; rw [hu]) | (go_at_call 136; refine (plus_post (primsMay_calls _ _ _ _ _ _ _ _ _ hs m.ps _ (hpl.ex skM) (hpp.ex skM) (by omega) (by omega))).mono ?_; rintro e w' ⟨rfl, nx, rfl⟩; rw [hp]))
    go_ret
    exact ⟨rfl, skB⟩
  have i3 : ¬ (16 : Int) < (pn : Int) := by omega
  have hM : ¬ (64 < m.vs.length ∨ 64 < m.uv.length ∨ 16 < m.ps.length) := by omega
  rw [msErr, if_neg hM]
  cases hv : m.vs.all vOk
  · rw [show msOk m = false by simp [msOk, hv]]
    go_enter Tryz.func77, Tryz.ntmps77
    go_wp2_with (first | (go_at_call 134; refine (plus_post (corners_calls _ _ _ m.vs _ (hvl.ex skM) (by omega))).mono ?_; rintro e w' ⟨rfl, nx, rfl⟩; rw [hv]) | (go_at_call 135; refine (plus_post (places_calls _ _ _ m.uv _ (hul.ex skM) (by omega))).mono ?_; rintro e w' ⟨rfl, nx, rfl⟩; rw [hu]) | (go_at_call 136; refine (plus_post (primsMay_calls _ _ _ _ _ _ _ _ _ hs m.ps _ (hpl.ex skM) (hpp.ex skM) (by omega) (by omega))).mono ?_; rintro e w' ⟨rfl, nx, rfl⟩; rw [hp]))
    go_ret
    exact ⟨rfl, skB⟩
  by_cases he : un = vn
  rotate_left
  · rw [show msOk m = false by (have : ¬ m.uv.length = m.vs.length := by omega); simp [msOk, this]]
    have ie : ¬ (un : Int) = (vn : Int) := by omega
    have de : ((un : Int) == (vn : Int)) = false := by rw [beq_eq_false_iff_ne]; omega
    go_enter Tryz.func77, Tryz.ntmps77
    go_wp2_with (first | (go_at_call 134; refine (plus_post (corners_calls _ _ _ m.vs _ (hvl.ex skM) (by omega))).mono ?_; rintro e w' ⟨rfl, nx, rfl⟩; rw [hv]) | (go_at_call 135; refine (plus_post (places_calls _ _ _ m.uv _ (hul.ex skM) (by omega))).mono ?_; rintro e w' ⟨rfl, nx, rfl⟩; rw [hu]) | (go_at_call 136; refine (plus_post (primsMay_calls _ _ _ _ _ _ _ _ _ hs m.ps _ (hpl.ex skM) (hpp.ex skM) (by omega) (by omega))).mono ?_; rintro e w' ⟨rfl, nx, rfl⟩; rw [hp]))
    go_ret
    exact ⟨rfl, skB⟩
  subst he
  cases hu : m.uv.all uOk
  · rw [show msOk m = false by simp [msOk, hu]]
    go_enter Tryz.func77, Tryz.ntmps77
    go_wp2_with (first | (go_at_call 134; refine (plus_post (corners_calls _ _ _ m.vs _ (hvl.ex skM) (by omega))).mono ?_; rintro e w' ⟨rfl, nx, rfl⟩; rw [hv]) | (go_at_call 135; refine (plus_post (places_calls _ _ _ m.uv _ (hul.ex skM) (by omega))).mono ?_; rintro e w' ⟨rfl, nx, rfl⟩; rw [hu]) | (go_at_call 136; refine (plus_post (primsMay_calls _ _ _ _ _ _ _ _ _ hs m.ps _ (hpl.ex skM) (hpp.ex skM) (by omega) (by omega))).mono ?_; rintro e w' ⟨rfl, nx, rfl⟩; rw [hp]))
    go_ret
    exact ⟨rfl, skB⟩
  cases hp : psOk un m.ps
  · rw [show msOk m = false by rw [msOk, lv, hp, Bool.and_false]]
    go_enter Tryz.func77, Tryz.ntmps77
    go_wp2_with (first | (go_at_call 134; refine (plus_post (corners_calls _ _ _ m.vs _ (hvl.ex skM) (by omega))).mono ?_; rintro e w' ⟨rfl, nx, rfl⟩; rw [hv]) | (go_at_call 135; refine (plus_post (places_calls _ _ _ m.uv _ (hul.ex skM) (by omega))).mono ?_; rintro e w' ⟨rfl, nx, rfl⟩; rw [hu]) | (go_at_call 136; refine (plus_post (primsMay_calls _ _ _ _ _ _ _ _ _ hs m.ps _ (hpl.ex skM) (hpp.ex skM) (by omega) (by omega))).mono ?_; rintro e w' ⟨rfl, nx, rfl⟩; rw [hp]))
    go_ret
    exact ⟨rfl, skB⟩
  rw [show msOk m = true by rw [msOk, lv, lu, hv, hu, hp]; simp]
  go_enter Tryz.func77, Tryz.ntmps77
  go_wp2_with (first | (go_at_call 134; refine (plus_post (corners_calls _ _ _ m.vs _ (hvl.ex skM) (by omega))).mono ?_; rintro e w' ⟨rfl, nx, rfl⟩; rw [hv]) | (go_at_call 135; refine (plus_post (places_calls _ _ _ m.uv _ (hul.ex skM) (by omega))).mono ?_; rintro e w' ⟨rfl, nx, rfl⟩; rw [hu]) | (go_at_call 136; refine (plus_post (primsMay_calls _ _ _ _ _ _ _ _ _ hs m.ps _ (hpl.ex skM) (hpp.ex skM) (by omega) (by omega))).mono ?_; rintro e w' ⟨rfl, nx, rfl⟩; rw [hp]))
  go_ret
  exact ⟨rfl, skB⟩

end

end Go.Proofs.YtcekcihijdipoaaGreat
