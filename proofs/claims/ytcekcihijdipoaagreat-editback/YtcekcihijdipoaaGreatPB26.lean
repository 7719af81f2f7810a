/- A pack of texts: EditBack. -/
import Derived.Deep.DeepCutAuto
import Derived.Test.YtcekcihijdipoaaGreatPB25
import Derived.Test.YtcekcihijdipoaaGreatPB1
namespace Go.Proofs.YtcekcihijdipoaaGreat

section


open Go.RowKit Go.ChangeShapes Go.WideShapes Go.ChangeAt

set_option linter.unusedSimpArgs false

set_option linter.unusedVariables false

attribute [local go_sem] plus_size plus_drew dn_set dn_alloc dn_plus plus_dn cell_plus frozen_plus set_plus cell_alloc frozen_alloc set_alloc

set_option maxRecDepth 100000 in
set_option maxHeartbeats 16000000 in
theorem editBack_walk (zh0 : SH) (zx0 : SX) (zs0 : Sc) (zh1 : NH) (zn1 : Nd) (w : World) (hG0 : GrIn w zh0.ga zh0.gn zh0.ka zh0.kn zx0.gr zs0.g) (hR0 : RestAt w zh0 zx0 zs0) (hN1 : NodeAt w zh1 zn1) :
    Calls Tryz.prog 8 #[vS zh0, vN zh1] w fun e w' => e = .returned (.bool true) ∧ Below w.heap.size w w' := by
  show Calls Tryz.prog 8 #[.agg (scCells zh0).toArray, .agg (fN zh1).toArray] w fun e w' => e = .returned (.bool true) ∧ Below w.heap.size w w'
  have hfar := far_at zh1
  obtain ⟨bg, hbg⟩ : ∃ b, greatSc zh0 zx0 = b := ⟨_, rfl⟩
  have few0 : bg = false → ScAt w zh0 zx0 zs0 := fun e => few_great hG0 hR0 (hbg.trans e)
  have V0 : OneV 13 w (scCells zh0) (.bool bg) := ⟨fun w' hw => great10_is (hG0.ex10 hw) (hR0.ex hw) hbg⟩
  have hroot0 := hR0.root
  replace few0 := Hush9.mk few0
  clear hG0 hR0 hbg
  obtain ⟨b, hb⟩ : ∃ b, w.heap.size = b := ⟨_, rfl⟩
  go_enter Tryz.func8, Tryz.ntmps8
  go_upto_region 1 with fail
  refine name_w (fun w' => (∃ y, w' = plus w y) ∧ w'.heap[b]? = some (.cells (scCells zh0).toArray 34) ∧ w'.heap[b + 1]? = some (.cells (fN zh1).toArray 56)) ⟨(by with_reducible repeat (first | exact ex_refl _ | exact ex_more9 | apply ex_alloc | apply ex_plus | apply ex_drew | apply ex_drewN)), hb ▸ blk_old (blk_new2 _ _), by rw [← hb]; exact blk_new3 _ _ _⟩ ?_
  try simp only [hb]
  rintro w0 ⟨x0, k0, k1⟩
  go_upto_region 2 with (go_at_call 11; refine (alive_calls _).mono ?_; rintro e w' ⟨rfl, nx9, rfl⟩)
  refine name_w (fun w' => ∃ y, w' = plus w0 y) (by with_reducible repeat (first | exact ex_refl _ | exact ex_more9 | apply ex_alloc | apply ex_plus | apply ex_drew | apply ex_drewN)) ?_
  rintro w1 x1
  have g1 := ex_trans x0 x1
  have k0 := blk_ex x1 k0
  have k1 := blk_ex x1 k1
  have p17 := cell_of k1 hfar
  have lb1 := blk_lt k1
  cases bg
  rotate_left
  · go_wp2_with (first | (with_reducible refine wpList_row_guarded 34 (Operand.tmp 2) rfl b (by kernel_rfl) _ _ _ _ (blk_ex ((by with_reducible repeat (first | exact ex_refl _ | exact ex_more9 | apply ex_alloc | apply ex_plus | apply ex_drew | apply ex_drewN))) k0) Tryz.underlying34 (by kernel_rfl) (by kernel_rfl) (by kernel_rfl) ?_) | (go_at_call 13; refine (V0.it _ (ex_trans g1 (by with_reducible repeat (first | exact ex_refl _ | exact ex_more9 | apply ex_alloc | apply ex_plus | apply ex_drew | apply ex_drewN)))).mono ?_; rintro e w' ⟨rfl, nx, rfl⟩))
    go_ret
    exact ⟨rfl, below_ex (ex_trans g1 (by with_reducible repeat (first | exact ex_refl _ | exact ex_more9 | apply ex_alloc | apply ex_plus | apply ex_drew | apply ex_drewN)))⟩
  by_cases h200 : 200 < zh1.n
  · have i200 : (200 : Int) < (zh1.n : Int) := by omega
    go_wp2_with (first | (with_reducible refine wpList_row_guarded 34 (Operand.tmp 2) rfl b (by kernel_rfl) _ _ _ _ (blk_ex ((by with_reducible repeat (first | exact ex_refl _ | exact ex_more9 | apply ex_alloc | apply ex_plus | apply ex_drew | apply ex_drewN))) k0) Tryz.underlying34 (by kernel_rfl) (by kernel_rfl) (by kernel_rfl) ?_) | (go_at_call 13; refine (V0.it _ (ex_trans g1 (by with_reducible repeat (first | exact ex_refl _ | exact ex_more9 | apply ex_alloc | apply ex_plus | apply ex_drew | apply ex_drewN)))).mono ?_; rintro e w' ⟨rfl, nx, rfl⟩))
    go_ret
    exact ⟨rfl, below_ex (ex_trans g1 (by with_reducible repeat (first | exact ex_refl _ | exact ex_more9 | apply ex_alloc | apply ex_plus | apply ex_drew | apply ex_drewN)))⟩
  have i200 : ¬ (200 : Int) < (zh1.n : Int) := by omega
  have A0 := (few0.it rfl).ex g1
  have N1 := hN1.ex g1
  clear few0
  obtain ⟨er, her⟩ : ∃ v, doErr zs0 (edK 1 0 0 0 0 0 zn1) = v := ⟨_, rfl⟩
  obtain ⟨S, hS⟩ : ∃ v, doSc zs0 (edK 1 0 0 0 0 0 zn1) = v := ⟨_, rfl⟩
  obtain ⟨A, hA⟩ : ∃ v, (tookH zs0 (edK 1 0 0 0 0 0 zn1)).1 = v := ⟨_, rfl⟩
  obtain ⟨B, hB⟩ : ∃ v, (tookH zs0 (edK 1 0 0 0 0 0 zn1)).2 = v := ⟨_, rfl⟩
  have hC : tookN zs0 (edK 1 0 0 0 0 0 zn1) = 0 := by unfold tookN; split <;> simp [edK]
  have hfewS : FewSc S := hS ▸ few_do
  have D1 : DoV w1 (scCells zh0) (fE (eK 1 0 0 0 0 0 zh1)) A B 0 er S := do_v A0 (eK_at (by decide) N1) (show zh1.n ≤ 10000 by omega) (Prod.ext hA hB) hC her hS
  go_upto_region 4 with (first | (with_reducible refine wpList_row_guarded 34 (Operand.tmp 2) rfl b (by kernel_rfl) _ _ _ _ (blk_ex ((by with_reducible repeat (first | exact ex_refl _ | exact ex_more9 | apply ex_alloc | apply ex_plus | apply ex_drew | apply ex_drewN))) k0) Tryz.underlying34 (by kernel_rfl) (by kernel_rfl) (by kernel_rfl) ?_) | (go_at_call 13; refine (V0.it _ (ex_trans g1 (by with_reducible repeat (first | exact ex_refl _ | exact ex_more9 | apply ex_alloc | apply ex_plus | apply ex_drew | apply ex_drewN)))).mono ?_; rintro e w' ⟨rfl, nx, rfl⟩))
  refine name_w (fun w' => ∃ y, w' = plus w1 y) (by with_reducible repeat (first | exact ex_refl _ | exact ex_more9 | apply ex_alloc | apply ex_plus | apply ex_drew | apply ex_drewN)) ?_
  rintro w2 x2
  have k02 := blk_ex x2 k0
  have k12 := blk_ex x2 k1
  go_upto_region 5 with (first | (refine wpList_load_row rfl 34 (Operand.tmp 2) rfl b (by kernel_rfl) _ _ _ _ (by exact blk_ex ((by with_reducible repeat (first | exact ex_refl _ | exact ex_more9 | apply ex_alloc | apply ex_plus | apply ex_drew | apply ex_drewN))) k02) Tryz.underlying34 rfl (by kernel_rfl) ?_) | (refine wpList_load_row rfl 56 (Operand.tmp 3) rfl (b + 1) (by kernel_rfl) _ _ _ _ (by exact blk_ex ((by with_reducible repeat (first | exact ex_refl _ | exact ex_more9 | apply ex_alloc | apply ex_plus | apply ex_drew | apply ex_drewN))) k12) Tryz.underlying56 rfl (by kernel_rfl) ?_) | (refine wpList_build_is rfl 66 _ rfl (fE (eK 1 0 0 0 0 0 zh1)) ?hf ?_; case hf => (simp only [List.map_toArray, List.map_cons, List.map_nil]; kernel_rfl)) | (go_at_call 9; refine (D1.it _ (ex_trans x2 (by with_reducible repeat (first | exact ex_refl _ | exact ex_more9 | apply ex_alloc | apply ex_plus | apply ex_drew | apply ex_drewN)))).mono ?_; rintro r w3 ⟨h3, y3, rfl, x3, o3⟩) | (refine wpList_store_box rfl 34 (Operand.tmp 6) _ rfl w3.heap.size (scCells h3) (by simp [go_sem]) rfl 34 (scCells sh0).toArray (by exact blk_old (blk_new2 _ _)) (by kernel_rfl) (by kernel_rfl) (scCells_1 _) ?_) | (refine wpList_store_box rfl 36 (Operand.tmp 7) _ rfl (w3.heap.size + 1) [.int .i64 A, .int .i64 B, .int .i64 0] (by simp [go_sem]) rfl 36 #[.int .i64 0, .int .i64 0, .int .i64 0] (by exact blk_row_far (blk_new3 _ _ _) (by omega)) (by kernel_rfl) rfl (by intro v hv; simp at hv; rcases hv with rfl | rfl | rfl <;> rfl) ?_))
  refine name_w (fun w' => (∃ y, w' = plus w3 y) ∧ w'.heap[w3.heap.size]? = some (.cells (scCells h3).toArray 34) ∧ w'.heap[w3.heap.size + 1]? = some (.cells #[.int .i64 A, .int .i64 B, .int .i64 0] 36)) ⟨ex_row_new (ex_row_new (by with_reducible repeat (first | exact ex_refl _ | exact ex_more9 | apply ex_alloc | apply ex_plus | apply ex_drew | apply ex_drewN)) (Nat.le_refl _)) (Nat.le_succ _), blk_row_far (blk_row_eq (blk_old (blk_new2 _ _))) (by omega), blk_row_eq (blk_row_far (blk_new3 _ _ _) (by omega))⟩ ?_
  obtain ⟨b3, hb3⟩ : ∃ b, w3.heap.size = b := ⟨_, rfl⟩
  try simp only [hb3]
  rintro v3 ⟨z3, p3, q3⟩
  have g3 := ex_trans x3 z3
  have g13 := ex_trans x2 g3
  have k03 := blk_ex g3 k02
  by_cases h0 : er = 0
  rotate_left
  · have d0 : (er == 0) = false := by rw [beq_eq_false_iff_ne]; exact h0
    go_wp2
    go_ret
    exact ⟨rfl, below_ex (ex_trans (ex_trans g1 g13) (by with_reducible repeat (first | exact ex_refl _ | exact ex_more9 | apply ex_alloc | apply ex_plus | apply ex_drew | apply ex_drewN)))⟩
  subst h0
  obtain ⟨hm, hed, hsc⟩ := doErr_may her
  have hzk : zs0.ns.length ≤ zs0.g.ks.length := Nat.le_of_eq (may_parts hm).2.1
  have hzs : zs0.ns.length ≤ zs0.g.sl.length := Nat.le_trans hzk (Nat.le_of_eq (gr_parts (may_parts hm).1).2.1)
  obtain ⟨k, hk⟩ : ∃ k, freeAt zs0.g.sl = k := ⟨_, rfl⟩
  have htk : tookH zs0 (edK 1 0 0 0 0 0 zn1) = (mkSlot zs0.g.sl, mkGen zs0.g.sl) := by rw [tookH, if_pos ⟨her, rfl⟩]
  have hA2 : A = mkSlot zs0.g.sl := by rw [← hA, htk]
  have hB2 : B = mkGen zs0.g.sl := by rw [← hB, htk]
  have hmS : maySc S = true := hS ▸ do_may her
  have hbk := back10 (d2 := edK 5 A B 0 0 0 nd0) hm rfl hed rfl (by show (A, B) = _; rw [hA2, hB2])
  rw [← hsc, hS] at hbk
  obtain ⟨hed2, hback⟩ := hbk
  rw [hk] at hback
  have hde2 := doErr_of hmS hed2
  obtain ⟨S2, hS2⟩ : ∃ v, edSc S (edK 5 A B 0 0 0 nd0) = v := ⟨_, rfl⟩
  rw [hS2] at hback hde2
  obtain rfl : A = (k : Int) := by rw [hA2, mkSlot, hk]
  have A1 := (o3.at hfewS).ex z3
  have hC2 : tookN S (edK 5 k B 0 0 0 nd0) = 0 := by unfold tookN; split <;> simp [edK]
  have hT2 : tookH S (edK 5 k B 0 0 0 nd0) = (0, 0) := by unfold tookH; rw [if_neg (by simp [edK])]
  have few2 : FewSc S2 := hde2.2 ▸ few_do
  have D2 : DoV v3 (scCells h3) (fE (eK 5 k B 0 0 0 nh0)) 0 0 0 0 S2 := do_v A1 (eK_at (by decide) (nd0_at _)) (Nat.zero_le _) hT2 hC2 hde2.1 hde2.2
  have c0 : v3.cell? ⟨b3 + 1, 0, none⟩ = some (.int .i64 k) := cell_blk q3 rfl
  have c1 : v3.cell? ⟨b3 + 1, 1, none⟩ = some (.int .i64 B) := cell_blk q3 rfl
  have lq := blk_lt q3
  clear D1 hA hB hC her hS htk hA2 hB2 hed hsc hed2 hS2 hde2 hmS hfewS hm hT2 hC2 hfar hk
  replace hback := Hush9.mk hback
  go_upto_region 7 with fail
  go_upto_region 8 with (first | (refine wpList_load_row rfl 34 (Operand.tmp 6) rfl b3 (by kernel_rfl) _ _ _ _ (by exact blk_ex ((by with_reducible repeat (first | exact ex_refl _ | exact ex_more9 | apply ex_alloc | apply ex_plus | apply ex_drew | apply ex_drewN))) p3) Tryz.underlying34 rfl (by kernel_rfl) ?_) | (refine wpList_build_is rfl 66 _ rfl (fE (eK 5 k B 0 0 0 nh0)) ?hf ?_; case hf => (simp only [List.map_toArray, List.map_cons, List.map_nil]; kernel_rfl)) | (go_at_call 9; refine (D2.it _ ((by with_reducible repeat (first | exact ex_refl _ | exact ex_more9 | apply ex_alloc | apply ex_plus | apply ex_drew | apply ex_drewN)))).mono ?_; rintro r w4 ⟨h4, y4, rfl, x4, o4⟩) | (refine wpList_store_box rfl 34 (Operand.tmp 9) _ rfl w4.heap.size (scCells h4) (by simp [go_sem]) rfl 34 (scCells sh0).toArray (by exact blk_old (blk_new2 _ _)) (by kernel_rfl) (by kernel_rfl) (scCells_1 _) ?_) | (refine wpList_store_box rfl 36 (Operand.tmp 10) _ rfl (w4.heap.size + 1) [.int .i64 0, .int .i64 0, .int .i64 0] (by simp [go_sem]) rfl 36 #[.int .i64 0, .int .i64 0, .int .i64 0] (by exact blk_row_far (blk_new3 _ _ _) (by omega)) (by kernel_rfl) rfl (by intro v hv; simp at hv; rcases hv with rfl | rfl | rfl <;> rfl) ?_))
  refine name_w (fun w' => (∃ y, w' = plus w4 y) ∧ w'.heap[w4.heap.size]? = some (.cells (scCells h4).toArray 34) ∧ w'.heap[w4.heap.size + 1]? = some (.cells #[.int .i64 0, .int .i64 0, .int .i64 0] 36)) ⟨ex_row_new (ex_row_new (by with_reducible repeat (first | exact ex_refl _ | exact ex_more9 | apply ex_alloc | apply ex_plus | apply ex_drew | apply ex_drewN)) (Nat.le_refl _)) (Nat.le_succ _), blk_row_far (blk_row_eq (blk_old (blk_new2 _ _))) (by omega), blk_row_eq (blk_row_far (blk_new3 _ _ _) (by omega))⟩ ?_
  obtain ⟨b4, hb4⟩ : ∃ b, w4.heap.size = b := ⟨_, rfl⟩
  try simp only [hb4]
  rintro v4 ⟨z4, p4, q4⟩
  have g4 := ex_trans x4 z4
  have k04 := blk_ex g4 k03
  have q34 := blk_ex g4 q3
  have A2 := (o4.at few2).ex z4
  have AZ := A0.ex (ex_trans g13 g4)
  have hroot2 := o4.root
  have nz := AZ.nn
  have n2 := A2.nn
  have hbl := hback.it.nl
  have hbk := hback.it.kl
  rw [hback.it.root, hroot0] at hroot2
  simp only [Prod.mk.injEq] at hroot2
  have e5 : v4.cell? ⟨b, 5, none⟩ = some (.int .i64 zh0.r0) := cell_of k04 rfl
  have e6 : v4.cell? ⟨b, 6, none⟩ = some (.int .i64 zh0.r1) := cell_of k04 rfl
  have f5 : v4.cell? ⟨b4, 5, none⟩ = some (.int .i64 h4.r0) := cell_of p4 rfl
  have f6 : v4.cell? ⟨b4, 6, none⟩ = some (.int .i64 h4.r1) := cell_of p4 rfl
  rw [hroot2.1] at e5
  rw [hroot2.2] at e6
  have e2 : v4.cell? ⟨b, 2, none⟩ = some (.slice zh0.na zh0.nn zh0.nc) := cell_of k04 rfl
  have f2' : v4.cell? ⟨b4, 2, none⟩ = some (.slice h4.na h4.nn h4.nc) := cell_of p4 rfl
  have c0 : v4.cell? ⟨b3 + 1, 0, none⟩ = some (.int .i64 k) := cell_blk q34 rfl
  have l0 := blk_lt k04
  have l4 := blk_lt p4
  have lq := blk_lt q34
  have qH := eqH_is (eqh_rfl h4.r0 h4.r1)
  have ia : ¬ (h4.nn : Int) ≤ (k : Int) := by omega
  have ib : ¬ (h4.nn : Int) < (zh0.nn : Int) := by omega
  have GA := ex_trans (ex_trans g1 g13) g4
  clear hroot2 hroot0 D2 A1 o3 o4 x3 z3 x4 z4 g3 g4 g13 q3 p3 k03 k02 k12 k0 k1 p17 lb1 c1
  go_upto_region 10 with fail
  refine name_w (fun w' => ∃ y, w' = plus v4 y) (by with_reducible repeat (first | exact ex_refl _ | exact ex_more9 | apply ex_alloc | apply ex_plus | apply ex_drew | apply ex_drewN)) ?_
  rintro v5 x5
  have e2 := cell_ex x5 e2
  have f2' := cell_ex x5 f2'
  have c0 := cell_ex x5 c0
  have k05 := blk_ex x5 k04
  have p5 := blk_ex x5 p4
  have e0 : v5.cell? ⟨b, 0, none⟩ = some (.slice zh0.ga zh0.gn zh0.gc) := cell_of k05 rfl
  have e1 : v5.cell? ⟨b, 1, none⟩ = some (.slice zh0.ka zh0.kn zh0.kc) := cell_of k05 rfl
  have f0 : v5.cell? ⟨b4, 0, none⟩ = some (.slice h4.ga h4.gn h4.gc) := cell_of p5 rfl
  have f1 : v5.cell? ⟨b4, 1, none⟩ = some (.slice h4.ka h4.kn h4.kc) := cell_of p5 rfl
  have l0 := blk_lt k05
  have l4 := blk_lt p5
  have lq := cell_lt c0
  have A2 := A2.ex x5
  have AZ := AZ.ex x5
  have GA := ex_trans GA x5
  have hnn6 : zh0.nn ≤ 1000 := by have := AZ.f.nn; omega
  have smz := AZ.small
  have sm2 := A2.small
  clear k04 p4 e5 e6 f5 f6 x5 q34 q4
  go_wp2
  go_loopw [12] (fun i wr => ∃ j : Nat, j ≤ zh0.nn ∧ i = .int .i64 j ∧ ∃ y, wr = plus v5 y) (fun i _ => zh0.nn - (intOf i).toNat)
  case atStart => exact ⟨0, Nat.zero_le _, rfl, (by with_reducible repeat (first | exact ex_refl _ | exact ex_more9 | apply ex_alloc | apply ex_plus | apply ex_drew | apply ex_drewN))⟩
  case round =>
    obtain ⟨j, hj, rfl, y, rfl⟩ := hrel
    by_cases hjl : j < zh0.nn
    · have ij : (j : Int) < (zh0.nn : Int) := by omega
      have g2k := A2.g.kl
      have gzk := AZ.g.kl
      have g2s := A2.g.sl.len
      have gzs := AZ.g.sl.len
      have hbk2 := hback.it.kn
      have hbs2 := hback.it.sn
      have i2 : (j : Int) < (h4.nn : Int) := by omega
      have i3 : (j : Int) < (h4.kn : Int) := by omega
      have i4 : (j : Int) < (h4.gn : Int) := by omega
      obtain ⟨gn1, on1, hna1, hgn1, hcn1⟩ := A2.r.nl.some (by omega)
      obtain ⟨gn2, on2, hna2, hgn2, hcn2⟩ := AZ.r.nl.some (by omega)
      obtain ⟨gk1, ok1, hka1, hgk1, hck1⟩ := A2.g.kh.some (by omega)
      obtain ⟨gk2, ok2, hka2, hgk2, hck2⟩ := AZ.g.kh.some (by omega)
      obtain ⟨gs1, os1, hsa1, hgs1, hcs1⟩ := A2.g.sl.some (by omega)
      obtain ⟨gs2, os2, hsa2, hgs2, hcs2⟩ := AZ.g.sl.some (by omega)
      rw [hna1] at f2'
      rw [hna2] at e2
      rw [hka1] at f1
      rw [hka2] at e1
      rw [hsa1] at f0
      rw [hsa2] at e0
      have hp1 := lay_part (d := nh0) n2.2 fN_c hcn1 (k := j) (by omega)
      have hp2 := lay_part (d := nh0) nz.2 fN_c hcn2 (k := j) (by omega)
      have kr1 := cellR A2.g.kh.len hck1 (k := j) (by omega)
      have kr2 := cellR AZ.g.kh.len hck2 (k := j) (by omega)
      have ks1 := cellS g2s hcs1 (k := j) (by omega)
      have ks2 := cellS gzs hcs2 (k := j) (by omega)
      have a1 := A2.r.ns.one j (by omega)
      have a2 := AZ.r.ns.one j (by omega)
      have s1 := sm2.n j (by omega)
      have s2 := smz.n j (by omega)
      have r1 := A2.g.row j (by rw [A2.g.kh.len]; omega)
      have r2 := AZ.g.row j (by rw [AZ.g.kh.len]; omega)
      have rn1 := A2.g.n3 j (by rw [A2.g.kh.len]; omega)
      have hn := hback.it.n j (by omega)
      have hr := hback.it.r j (by omega)
      have hv : j ≠ k → nth dSl S2.g.sl j = nth dSl zs0.g.sl j := fun h => hback.it.v j (by omega) h
      have hP := Hush9.mk (And.intro hp1 hp2)
      have hQ := Hush9.mk hn
      have hR := Hush9.mk hr
      clear hp1 hp2 hcn1 hcn2 hck1 hck2 hcs1 hcs2 hn hr
      by_cases hjk : j = k
      · subst hjk
        clear hv
        go_wp2
        refine region_plus (by kernel_rfl) (by kernel_rfl) ?_
        (repeat (first | go_big_quiet_skip | (refine wpQuiet_load_guarded 56 (Operand.tmp 83) rfl gn1 (on1 + j * 33) rfl (fN (nth nh0 y4.nh j)) _ (fun w' hw jj v hj => cell_ex (ex_trans (by with_reducible repeat (first | exact ex_refl _ | exact ex_more9 | apply ex_alloc | apply ex_plus | apply ex_drew | apply ex_drewN)) hw) (hP.it.1 jj v hj)) Tryz.underlying56 rfl (by kernel_rfl) (by kernel_rfl) ?_; simp only [Act.put, List.setIfInBounds_toArray, List.set_cons_succ, List.set_cons_zero]) | (refine wpQuiet_load_guarded 56 (Operand.tmp 88) rfl gn2 (on2 + j * 33) rfl (fN (nth nh0 zx0.nh j)) _ (fun w' hw jj v hj => cell_ex (ex_trans (by with_reducible repeat (first | exact ex_refl _ | exact ex_more9 | apply ex_alloc | apply ex_plus | apply ex_drew | apply ex_drewN)) hw) (hP.it.2 jj v hj)) Tryz.underlying56 rfl (by kernel_rfl) (by kernel_rfl) ?_; simp only [Act.put, List.setIfInBounds_toArray, List.set_cons_succ, List.set_cons_zero]) | go_big_quiet_step (first | (go_at_call 24; exact q9_of (same_is (h := nth nh0 y4.nh j) (h2 := nth nh0 zx0.nh j) hQ.it (a1.ex (by with_reducible repeat (first | exact ex_refl _ | exact ex_more9 | apply ex_alloc | apply ex_plus | apply ex_drew | apply ex_drewN))) (a2.ex (by with_reducible repeat (first | exact ex_refl _ | exact ex_more9 | apply ex_alloc | apply ex_plus | apply ex_drew | apply ex_drewN))) s1 s2)) | (go_at_call 25; exact q9_of (kids_is hR.it (r1.ex (by with_reducible repeat (first | exact ex_refl _ | exact ex_more9 | apply ex_alloc | apply ex_plus | apply ex_drew | apply ex_drewN))) (r2.ex (by with_reducible repeat (first | exact ex_refl _ | exact ex_more9 | apply ex_alloc | apply ex_plus | apply ex_drew | apply ex_drewN))) (by omega))))))
        refine wpQuiet_nil ?_
        rintro _ ⟨x9, rfl⟩
        go_wp2
        go_roundw
        case rel => exact ⟨j + 1, by omega, by go_num, (by with_reducible repeat (first | exact ex_refl _ | exact ex_more9 | apply ex_alloc | apply ex_plus | apply ex_drew | apply ex_drewN))⟩
        case measure => simp [intOf]; omega
      · have djk : ((j : Int) == (k : Int)) = false := by rw [beq_eq_false_iff_ne]; omega
        have bjk : ((j : Int) != (k : Int)) = true := by rw [bne, djk]; rfl
        have hv2 := hv hjk
        rw [hv2] at ks1
        clear hv hv2
        go_wp2
        refine region_plus (by kernel_rfl) (by kernel_rfl) ?_
        (repeat (first | go_big_quiet_skip | (refine wpQuiet_load_guarded 56 (Operand.tmp 83) rfl gn1 (on1 + j * 33) rfl (fN (nth nh0 y4.nh j)) _ (fun w' hw jj v hj => cell_ex (ex_trans (by with_reducible repeat (first | exact ex_refl _ | exact ex_more9 | apply ex_alloc | apply ex_plus | apply ex_drew | apply ex_drewN)) hw) (hP.it.1 jj v hj)) Tryz.underlying56 rfl (by kernel_rfl) (by kernel_rfl) ?_; simp only [Act.put, List.setIfInBounds_toArray, List.set_cons_succ, List.set_cons_zero]) | (refine wpQuiet_load_guarded 56 (Operand.tmp 88) rfl gn2 (on2 + j * 33) rfl (fN (nth nh0 zx0.nh j)) _ (fun w' hw jj v hj => cell_ex (ex_trans (by with_reducible repeat (first | exact ex_refl _ | exact ex_more9 | apply ex_alloc | apply ex_plus | apply ex_drew | apply ex_drewN)) hw) (hP.it.2 jj v hj)) Tryz.underlying56 rfl (by kernel_rfl) (by kernel_rfl) ?_; simp only [Act.put, List.setIfInBounds_toArray, List.set_cons_succ, List.set_cons_zero]) | go_big_quiet_step (first | (go_at_call 24; exact q9_of (same_is (h := nth nh0 y4.nh j) (h2 := nth nh0 zx0.nh j) hQ.it (a1.ex (by with_reducible repeat (first | exact ex_refl _ | exact ex_more9 | apply ex_alloc | apply ex_plus | apply ex_drew | apply ex_drewN))) (a2.ex (by with_reducible repeat (first | exact ex_refl _ | exact ex_more9 | apply ex_alloc | apply ex_plus | apply ex_drew | apply ex_drewN))) s1 s2)) | (go_at_call 25; exact q9_of (kids_is hR.it (r1.ex (by with_reducible repeat (first | exact ex_refl _ | exact ex_more9 | apply ex_alloc | apply ex_plus | apply ex_drew | apply ex_drewN))) (r2.ex (by with_reducible repeat (first | exact ex_refl _ | exact ex_more9 | apply ex_alloc | apply ex_plus | apply ex_drew | apply ex_drewN))) (by omega))))))
        refine wpQuiet_nil ?_
        rintro _ ⟨x9, rfl⟩
        go_wp2
        go_roundw
        case rel => exact ⟨j + 1, by omega, by go_num, (by with_reducible repeat (first | exact ex_refl _ | exact ex_more9 | apply ex_alloc | apply ex_plus | apply ex_drew | apply ex_drewN))⟩
        case measure => simp [intOf]; omega
    · have ij : ¬ (j : Int) < (zh0.nn : Int) := by omega
      go_wp2
      go_ret
      exact ⟨rfl, by rw [← hb]; exact below_ex (ex_trans GA (by with_reducible repeat (first | exact ex_refl _ | exact ex_more9 | apply ex_alloc | apply ex_plus | apply ex_drew | apply ex_drewN)))⟩

set_option maxRecDepth 100000 in
theorem editBack_lifted (os : Os) (started : os.Started) (H : Type) (enc : TypeId × Value → H) :
    ReturnsInHanded {} Tryz.checked os 8 .any (Rows.editBackSpec.pre6 enc Tryz.prog Tryz.f8 Rows.editBackRow.domain false) (Rows.editBackSpec.post enc Tryz.prog Tryz.f8 false true false false) := by
  refine returnsInHanded_of_change_sized (C := Tryz.checked) own started (by kernel_rfl) Tryz.func8
    (ChangeSpec.witness6 (enc := enc) (C := Tryz.checked) false ⟨#[], #[.agg #[.slice none 0 0, .slice none 0 0, .slice none 0 0, .slice none 0 0, .slice none 0 0, .int .i64 0, .int .i64 0], .agg (List.toArray (.int .u8 0 :: .int .i64 0 :: .int .i64 0 :: .int .i64 0 :: .int .i64 0 :: .int .i64 0 :: .int .i64 0 :: .int .i64 0 :: .int .i64 0 :: .int .i64 0 :: .int .i64 0 :: .int .i64 0 :: .int .i64 0 :: .int .u16 0 :: .int .i64 0 :: .int .i64 0 :: .int .i64 0 :: .slice none 0 0 :: .int .i64 0 :: .int .u8 0 :: .int .u8 0 :: .int .u8 0 :: .int .u8 0 :: .int .u8 0 :: .int .u8 0 :: .int .u8 0 :: .int .u8 0 :: .int .u8 0 :: .int .i64 0 :: .int .u8 0 :: .int .i64 0 :: .bool false :: .int .i64 0 :: []))], []⟩ 8 (by kernel_rfl) (by kernel_rfl) (by kernel_rfl) (by kernel_rfl)) ?_
  intro W base args ds gs before hval0 hW hcnd hsz _
  have hval : ∀ (j : Nat) t v, Tryz.f8.params[j]? = some t → args[j]? = some v → Value.okWide Tryz.prog W .any base t v := hval0
  have hW' := hW
  obtain ⟨p, q, hA0, hV, rfl, hfz, hnd⟩ := hW
  have hA : DataW.TrodAll enc Tryz.prog W 0 (fun _ => true) true Tryz.f8.params.toList args.toList ds p := hA0
  rw [Tryz.params8] at hA hval
  obtain ⟨v0, vs0, d0, ds0, p0, q0, hargs, rfl, rfl, h0, r0⟩ := trodAll_cons hA
  obtain ⟨v1, vs1, d1, ds1, p1, q1, rfl, rfl, rfl, h1, r1⟩ := trodAll_cons r0
  obtain ⟨rfl, rfl, rfl⟩ := trodAll_nil r1
  obtain rfl : args = #[v0, v1] := by cases args; simp_all
  obtain ⟨zh0, zx0, zs0, rfl, hG0, hR0⟩ := open_scene (sm_of hsz (j := 0) (by kernel_rfl) rfl) (hval 0 34 v0 rfl rfl) h0
  obtain ⟨zh1, zn1, rfl, hN1⟩ := open_node (hval 1 56 v1 rfl rfl) h1
  refine (editBack_walk zh0 zx0 zs0 zh1 zn1  W hG0 hR0 hN1).mono fun e W' ⟨he, hb⟩ => ?_
  exact ⟨_, he, law_post laidOut Tryz.underlying4 rfl (by kernel_rfl) (by kernel_rfl) (fun ds h => match ds, h with | [_, _], _ => rfl) hW' hb⟩

theorem editBack_holds : Rows.EditBackSaid :=
  OpenClaim.holds_of_wide 8 Tryz.f8 rfl rfl rfl rfl rfl rfl rfl ⟨rfl, rfl, rfl, rfl, rfl⟩ rfl rfl rfl rfl rfl (by kernel_rfl) Tryz.func8 (by kernel_rfl)
    (of_decide_eq_true (by kernel_rfl)) (by unfold Func.isWrapper; first | (rw [if_pos (by decide +kernel)]; kernel_rfl) | (rw [if_neg (by decide +kernel)]; exact ⟨rfl, rfl⟩))
    (fun os started H enc _ => editBack_lifted os started H enc)
#print axioms editBack_holds

end

end Go.Proofs.YtcekcihijdipoaaGreat
