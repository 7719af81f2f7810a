/- A pack of texts: EditMays. -/
import Derived.Deep.DeepCutAuto
import Derived.Test.YtcekcihijdipoaaGreatPM24
import Derived.Test.YtcekcihijdipoaaGreatPM1
namespace Go.Proofs.YtcekcihijdipoaaGreat

section


open Go.RowKit Go.ChangeShapes Go.WideShapes Go.ChangeAt

set_option linter.unusedSimpArgs false

set_option linter.unusedVariables false

attribute [local go_sem] plus_size plus_drew dn_set dn_alloc dn_plus plus_dn cell_plus frozen_plus set_plus cell_alloc frozen_alloc set_alloc

set_option maxRecDepth 100000 in
set_option maxHeartbeats 16000000 in
theorem editMays_walk (zh0 : SH) (zx0 : SX) (zs0 : Sc) (zh1 : SH) (zx1 : SX) (zs1 : Sc) (zh2 : NH) (zn2 : Nd) (w : World) (hG0 : GrIn w zh0.ga zh0.gn zh0.ka zh0.kn zx0.gr zs0.g) (hR0 : RestAt w zh0 zx0 zs0) (hG1 : GrIn w zh1.ga zh1.gn zh1.ka zh1.kn zx1.gr zs1.g) (hR1 : RestAt w zh1 zx1 zs1) (hN2 : NodeAt w zh2 zn2) :
    Calls Tryz.prog 4 #[vS zh0, vS zh1, vN zh2] w fun e w' => e = .returned (.bool true) ∧ Below w.heap.size w w' := by
  show Calls Tryz.prog 4 #[.agg (scCells zh0).toArray, .agg (scCells zh1).toArray, .agg (fN zh2).toArray] w fun e w' => e = .returned (.bool true) ∧ Below w.heap.size w w'
  have hfar := far_at zh2
  obtain ⟨bg0, hbg0⟩ : ∃ b, greatSc zh0 zx0 = b := ⟨_, rfl⟩
  obtain ⟨bg1, hbg1⟩ : ∃ b, greatSc zh1 zx1 = b := ⟨_, rfl⟩
  have few0 : bg0 = false → ScAt w zh0 zx0 zs0 := fun e => few_great hG0 hR0 (hbg0.trans e)
  have few1 : bg1 = false → ScAt w zh1 zx1 zs1 := fun e => few_great hG1 hR1 (hbg1.trans e)
  obtain ⟨c0, hc0⟩ : ∃ c, scCells zh0 = c := ⟨_, rfl⟩
  obtain ⟨c1, hc1⟩ : ∃ c, scCells zh1 = c := ⟨_, rfl⟩
  obtain ⟨cn, hcn⟩ : ∃ c, fN zh2 = c := ⟨_, rfl⟩
  have l0 : c0.length = 7 := by rw [← hc0]; rfl
  have l1 : c1.length = 7 := by rw [← hc1]; rfl
  have ln : cn.length = 33 := by rw [← hcn]; rfl
  have a0 : c0.toArray.size = 7 := by simpa using l0
  have a1 : c1.toArray.size = 7 := by simpa using l1
  have an : cn.toArray.size = 33 := by simpa using ln
  rw [hcn] at hfar
  rw [hc0, hc1, hcn]
  obtain ⟨b, hb⟩ : ∃ b, w.heap.size = b := ⟨_, rfl⟩
  have V0 : OneV 13 w c0 (.bool bg0) := ⟨fun w' hw => hc0 ▸ great10_is (hG0.ex10 hw) (hR0.ex hw) hbg0⟩
  have V1 : OneV 13 w c1 (.bool bg1) := ⟨fun w' hw => hc1 ▸ great10_is (hG1.ex10 hw) (hR1.ex hw) hbg1⟩
  clear hG0 hG1 hR0 hR1 hbg0 hbg1
  replace few0 := Hush9.mk few0
  replace few1 := Hush9.mk few1
  go_enter Tryz.func4, Tryz.ntmps4
  go_upto_region 1 with fail
  refine name_w (fun w' => (∃ y, w' = plus w y) ∧ w'.heap[b]? = some (.cells c0.toArray 34) ∧ w'.heap[b + 1]? = some (.cells c1.toArray 34) ∧ w'.heap[b + 2]? = some (.cells cn.toArray 56) ∧ w'.heap.size = b + 3) ⟨(by with_reducible repeat (first | exact ex_refl _ | exact ex_more9 | apply ex_alloc | apply ex_plus | apply ex_drew | apply ex_drewN)), hb ▸ blk_old (blk_old (blk_new2 _ _)), by rw [← hb, ← size_alloc w (.cells c0.toArray 34)]; exact blk_old (blk_new2 _ _), by rw [show b + 2 = ((w.alloc (.cells c0.toArray 34)).alloc (.cells c1.toArray 34)).heap.size by rw [size_alloc, size_alloc, hb]]; exact blk_new2 _ _, by rw [size_alloc, size_alloc, size_alloc, hb]⟩ ?_
  try simp only [hb]
  rintro w1 ⟨x1, k0, k1, k2, z1⟩
  have p17 := cell_of k2 hfar
  have lb0 := blk_lt k0
  have lb2 := blk_lt k2
  cases bg0
  rotate_left
  · go_wp2_with (first | (with_reducible refine wpList_row_guarded 34 (Operand.tmp 3) rfl b (by kernel_rfl) _ _ _ _ (blk_ex ((by with_reducible repeat (first | exact ex_refl _ | exact ex_more9 | apply ex_alloc | apply ex_plus | apply ex_drew | apply ex_drewN))) k0) Tryz.underlying34 (by kernel_rfl) (by rw [a0]; kernel_rfl) (by kernel_rfl) ?_) | (go_at_call 13; refine (OneV.it (by first | exact V0 | exact V1) _ (ex_trans x1 (by with_reducible repeat (first | exact ex_refl _ | exact ex_more9 | apply ex_alloc | apply ex_plus | apply ex_drew | apply ex_drewN)))).mono ?_; rintro e w' ⟨rfl, nx, rfl⟩))
    go_ret
    exact ⟨rfl, below_ex (ex_trans x1 (by with_reducible repeat (first | exact ex_refl _ | exact ex_more9 | apply ex_alloc | apply ex_plus | apply ex_drew | apply ex_drewN)))⟩
  cases bg1
  rotate_left
  · go_wp2_with (first | (with_reducible refine wpList_row_guarded 34 (Operand.tmp 3) rfl b (by kernel_rfl) _ _ _ _ (blk_ex ((by with_reducible repeat (first | exact ex_refl _ | exact ex_more9 | apply ex_alloc | apply ex_plus | apply ex_drew | apply ex_drewN))) k0) Tryz.underlying34 (by kernel_rfl) (by rw [a0]; kernel_rfl) (by kernel_rfl) ?_) | (with_reducible refine wpList_row_guarded 34 (Operand.tmp 4) rfl (b + 1) (by kernel_rfl) _ _ _ _ (blk_ex ((by with_reducible repeat (first | exact ex_refl _ | exact ex_more9 | apply ex_alloc | apply ex_plus | apply ex_drew | apply ex_drewN))) k1) Tryz.underlying34 (by kernel_rfl) (by rw [a1]; kernel_rfl) (by kernel_rfl) ?_) | (go_at_call 13; refine (OneV.it (by first | exact V0 | exact V1) _ (ex_trans x1 (by with_reducible repeat (first | exact ex_refl _ | exact ex_more9 | apply ex_alloc | apply ex_plus | apply ex_drew | apply ex_drewN)))).mono ?_; rintro e w' ⟨rfl, nx, rfl⟩))
    go_ret
    exact ⟨rfl, below_ex (ex_trans x1 (by with_reducible repeat (first | exact ex_refl _ | exact ex_more9 | apply ex_alloc | apply ex_plus | apply ex_drew | apply ex_drewN)))⟩
  by_cases h200 : 200 < zh2.n
  · have i200 : (200 : Int) < (zh2.n : Int) := by omega
    go_wp2_with (first | (with_reducible refine wpList_row_guarded 34 (Operand.tmp 3) rfl b (by kernel_rfl) _ _ _ _ (blk_ex ((by with_reducible repeat (first | exact ex_refl _ | exact ex_more9 | apply ex_alloc | apply ex_plus | apply ex_drew | apply ex_drewN))) k0) Tryz.underlying34 (by kernel_rfl) (by rw [a0]; kernel_rfl) (by kernel_rfl) ?_) | (with_reducible refine wpList_row_guarded 34 (Operand.tmp 4) rfl (b + 1) (by kernel_rfl) _ _ _ _ (blk_ex ((by with_reducible repeat (first | exact ex_refl _ | exact ex_more9 | apply ex_alloc | apply ex_plus | apply ex_drew | apply ex_drewN))) k1) Tryz.underlying34 (by kernel_rfl) (by rw [a1]; kernel_rfl) (by kernel_rfl) ?_) | (go_at_call 13; refine (OneV.it (by first | exact V0 | exact V1) _ (ex_trans x1 (by with_reducible repeat (first | exact ex_refl _ | exact ex_more9 | apply ex_alloc | apply ex_plus | apply ex_drew | apply ex_drewN)))).mono ?_; rintro e w' ⟨rfl, nx, rfl⟩))
    go_ret
    exact ⟨rfl, below_ex (ex_trans x1 (by with_reducible repeat (first | exact ex_refl _ | exact ex_more9 | apply ex_alloc | apply ex_plus | apply ex_drew | apply ex_drewN)))⟩
  have i200 : ¬ (200 : Int) < (zh2.n : Int) := by omega
  have A0 := (few0.it rfl).ex x1
  have A1 := (few1.it rfl).ex x1
  have N2 := hN2.ex x1
  clear few0 few1
  go_upto_region 3 with (first | (with_reducible refine wpList_row_guarded 34 (Operand.tmp 3) rfl b (by kernel_rfl) _ _ _ _ (blk_ex ((by with_reducible repeat (first | exact ex_refl _ | exact ex_more9 | apply ex_alloc | apply ex_plus | apply ex_drew | apply ex_drewN))) k0) Tryz.underlying34 (by kernel_rfl) (by rw [a0]; kernel_rfl) (by kernel_rfl) ?_) | (with_reducible refine wpList_row_guarded 34 (Operand.tmp 4) rfl (b + 1) (by kernel_rfl) _ _ _ _ (blk_ex ((by with_reducible repeat (first | exact ex_refl _ | exact ex_more9 | apply ex_alloc | apply ex_plus | apply ex_drew | apply ex_drewN))) k1) Tryz.underlying34 (by kernel_rfl) (by rw [a1]; kernel_rfl) (by kernel_rfl) ?_) | (go_at_call 13; refine (OneV.it (by first | exact V0 | exact V1) _ (ex_trans x1 (by with_reducible repeat (first | exact ex_refl _ | exact ex_more9 | apply ex_alloc | apply ex_plus | apply ex_drew | apply ex_drewN)))).mono ?_; rintro e w' ⟨rfl, nx, rfl⟩))
  refine name_w (fun w' => ∃ y, w' = plus w1 y) (by with_reducible repeat (first | exact ex_refl _ | exact ex_more9 | apply ex_alloc | apply ex_plus | apply ex_drew | apply ex_drewN)) ?_
  rintro w2 x2
  have k02 := blk_ex x2 k0
  have A02 := A0.ex x2
  have RT := rtwin10_is A02
  rw [hc0] at RT
  go_upto_region 4 with (first | (with_reducible refine wpList_row_guarded 34 (Operand.tmp 3) rfl b (by kernel_rfl) _ _ _ _ (blk_ex ((by with_reducible repeat (first | exact ex_refl _ | exact ex_more9 | apply ex_alloc | apply ex_plus | apply ex_drew | apply ex_drewN))) k02) Tryz.underlying34 (by kernel_rfl) (by rw [a0]; kernel_rfl) (by kernel_rfl) ?_) | (go_at_call 14; refine RT.mono ?_; rintro e w3 ⟨h1, x1', rfl, x3, o1⟩) | (refine wpList_store_box rfl 34 (Operand.tmp 7) _ rfl w3.heap.size (scCells h1) (by simp [go_sem]) rfl _ _ (blk_new2 _ _) (by kernel_rfl) (by kernel_rfl) (scCells_1 _) ?_))
  refine name_w (fun w' => (∃ y, w' = plus w3 y) ∧ w'.heap[w3.heap.size]? = some (.cells (scCells h1).toArray 34)) ⟨ex_row_new (by with_reducible repeat (first | exact ex_refl _ | exact ex_more9 | apply ex_alloc | apply ex_plus | apply ex_drew | apply ex_drewN)) (Nat.le_refl _), blk_row_eq (blk_new2 _ _)⟩ ?_
  rintro w4 ⟨x4, k7⟩
  have A7 : ScAt w4 h1 x1' zs0 := (o1.at A0.f).ex x4
  have LT := ltwin10_is A7
  obtain ⟨q7, hq7⟩ : ∃ q, w3.heap.size = q := ⟨_, rfl⟩
  simp only [hq7] at k7 ⊢
  obtain ⟨c7, hc7⟩ : ∃ c, scCells h1 = c := ⟨_, rfl⟩
  have l7 : c7.length = 7 := by rw [← hc7]; rfl
  have a7 : c7.toArray.size = 7 := by simpa using l7
  rw [hc7] at k7 LT
  go_upto_region 5 with (first | (with_reducible refine wpList_row_guarded 34 (Operand.tmp 7) rfl q7 (by kernel_rfl) _ _ _ _ (blk_ex ((by with_reducible repeat (first | exact ex_refl _ | exact ex_more9 | apply ex_alloc | apply ex_plus | apply ex_drew | apply ex_drewN))) k7) Tryz.underlying34 (by kernel_rfl) (by rw [a7]; kernel_rfl) (by kernel_rfl) ?_) | (go_at_call 15; refine LT.mono ?_; rintro e w5 ⟨h2, x2', rfl, x5, o2⟩) | (refine wpList_store_box rfl 34 (Operand.tmp 8) _ rfl w5.heap.size (scCells h2) (by simp [go_sem]) rfl _ _ (blk_new2 _ _) (by kernel_rfl) (by kernel_rfl) (scCells_1 _) ?_))
  refine name_w (fun w' => (∃ y, w' = plus w5 y) ∧ w'.heap[w5.heap.size]? = some (.cells (scCells h2).toArray 34)) ⟨ex_row_new (by with_reducible repeat (first | exact ex_refl _ | exact ex_more9 | apply ex_alloc | apply ex_plus | apply ex_drew | apply ex_drewN)) (Nat.le_refl _), blk_row_eq (blk_new2 _ _)⟩ ?_
  rintro w6 ⟨x6, k8⟩
  obtain ⟨q8, hq8⟩ : ∃ q, w5.heap.size = q := ⟨_, rfl⟩
  simp only [hq8] at k8 ⊢
  obtain ⟨c8, hc8⟩ : ∃ c, scCells h2 = c := ⟨_, rfl⟩
  have l8 : c8.length = 7 := by rw [← hc8]; rfl
  have a8 : c8.toArray.size = 7 := by simpa using l8
  rw [hc8] at k8
  have X46 : ∃ y, w6 = plus w4 y := ex_trans x5 x6
  have X16 : ∃ y, w6 = plus w1 y := ex_trans (ex_trans (ex_trans x2 x3) x4) X46
  have A8 : ScAt w6 h2 x2' zs0 := (o2.at A0.f).ex x6
  have e1 := A7.mn.1
  have e2 := A7.tn.1
  have e3 := A0.mn.1
  have e4 := A0.tn.1
  obtain ⟨er, her⟩ : ∃ e, scErr zs0 = e := ⟨_, rfl⟩
  obtain ⟨nr, hnr⟩ : ∃ e, (if mayNd zh0.mn zh0.tn zn2 then (0 : Int) else 8) = e := ⟨_, rfl⟩
  have hnr2 : (if mayNd h1.mn h1.tn zn2 then (0 : Int) else 8) = nr := by rw [← hnr, show h1.mn = zh0.mn by omega, show h1.tn = zh0.tn by omega]
  obtain ⟨sb, hsb⟩ : ∃ b, sameSc zs0 zs1 = b := ⟨_, rfl⟩
  have n10 : zh2.n ≤ 10000 := by omega
  have U1 : OneV 12 w6 c7 (.int .i64 er) := ⟨fun w' hw => hc7 ▸ lcheck10_is (A7.ex (ex_trans X46 hw)) her⟩
  have U2 : OneV 16 w6 c0 (.int .i64 er) := ⟨fun w' hw => hc0 ▸ rcheck10_is (A0.ex (ex_trans X16 hw)) her⟩
  have U3 : TwoV 17 w6 c7 cn (.int .i64 nr) := ⟨fun w' hw => hc7 ▸ hcn ▸ lcheckNd_v (N2.ex (ex_trans X16 hw)) n10 hnr2⟩
  have U4 : TwoV 18 w6 c0 cn (.int .i64 nr) := ⟨fun w' hw => hc0 ▸ hcn ▸ rcheckNd_v (N2.ex (ex_trans X16 hw)) hnr⟩
  have U5 : TwoV 19 w6 c8 c0 (.bool true) := ⟨fun w' hw => hc8 ▸ hc0 ▸ rsame10_is (A8.ex hw) (A0.ex (ex_trans X16 hw)) (sameSc_refl _)⟩
  have U6 : TwoV 20 w6 c0 c1 (.bool sb) := ⟨fun w' hw => hc0 ▸ hc1 ▸ lsame10_is (A0.ex (ex_trans X16 hw)) (A1.ex (ex_trans X16 hw)) hsb⟩
  have U7 : TwoV 19 w6 c0 c1 (.bool sb) := ⟨fun w' hw => hc0 ▸ hc1 ▸ rsame10_is (A0.ex (ex_trans X16 hw)) (A1.ex (ex_trans X16 hw)) hsb⟩
  have U8 : TwoV 20 w6 c7 c0 (.bool true) := ⟨fun w' hw => hc7 ▸ hc0 ▸ lsame10_is (A7.ex (ex_trans X46 hw)) (A0.ex (ex_trans X16 hw)) (sameSc_refl _)⟩
  have U9 : TwoV 19 w4 c7 c0 (.bool true) := ⟨fun w' hw => hc7 ▸ hc0 ▸ rsame10_is (A7.ex hw) (A0.ex (ex_trans (ex_trans (ex_trans x2 x3) x4) hw)) (sameSc_refl _)⟩
  have SP : ∀ w', (∃ y, w' = plus w6 y) → Calls Tryz.prog 21 #[.agg c8.toArray] w' fun e w'' => e = .returned (.tuple #[]) ∧ ∃ y, w'' = plus w4 y := fun w' hw => hc8 ▸ spoil10_calls w4 h2 x2' zs0 w' (ex_trans X46 hw) ((o2.ex x6).ex hw) A0.f
  replace SP := Hush9.mk SP
  have XE := Hush9.mk (ex_trans x1 (ex_trans (ex_trans x2 x3) x4))
  have j0 := blk_ex X16 k0
  have j1 := blk_ex X16 k1
  have j2 := blk_ex X16 k2
  have j7 := blk_ex X46 k7
  have i0 := blk_ex (ex_trans (ex_trans x2 x3) x4) k0
  clear A7 A8 A0 A1 N2 A02 o1 o2 e1 e2 e3 e4 her hnr hnr2 hsb k0 k1 k2 k02 lb0 lb2 p17 V0 V1
  cases sb
  · refine region_plus (by kernel_rfl) (by kernel_rfl) ?_
    (repeat (first | go_big_quiet_skip | (refine wpQuiet_load_guarded 34 (Operand.tmp 3) rfl b 0 (by kernel_rfl) (c0) _ (fun w' hw j v hj => cell_ex hw (by rw [Nat.zero_add]; exact cell_of j0 hj)) Tryz.underlying34 rfl (by rw [l0]; kernel_rfl) (by kernel_rfl) ?_; simp only [Act.put, List.setIfInBounds_toArray, List.set_cons_succ, List.set_cons_zero]) | (refine wpQuiet_load_guarded 34 (Operand.tmp 4) rfl (b + 1) 0 (by kernel_rfl) (c1) _ (fun w' hw j v hj => cell_ex hw (by rw [Nat.zero_add]; exact cell_of j1 hj)) Tryz.underlying34 rfl (by rw [l1]; kernel_rfl) (by kernel_rfl) ?_; simp only [Act.put, List.setIfInBounds_toArray, List.set_cons_succ, List.set_cons_zero]) | (refine wpQuiet_load_guarded 56 (Operand.tmp 5) rfl (b + 2) 0 (by kernel_rfl) (cn) _ (fun w' hw j v hj => cell_ex hw (by rw [Nat.zero_add]; exact cell_of j2 hj)) Tryz.underlying56 rfl (by rw [ln]; kernel_rfl) (by kernel_rfl) ?_; simp only [Act.put, List.setIfInBounds_toArray, List.set_cons_succ, List.set_cons_zero]) | (refine wpQuiet_load_guarded 34 (Operand.tmp 7) rfl q7 0 (by kernel_rfl) (c7) _ (fun w' hw j v hj => cell_ex hw (by rw [Nat.zero_add]; exact cell_of j7 hj)) Tryz.underlying34 rfl (by rw [l7]; kernel_rfl) (by kernel_rfl) ?_; simp only [Act.put, List.setIfInBounds_toArray, List.set_cons_succ, List.set_cons_zero]) | (refine wpQuiet_load_guarded 34 (Operand.tmp 8) rfl q8 0 (by kernel_rfl) (c8) _ (fun w' hw j v hj => cell_ex hw (by rw [Nat.zero_add]; exact cell_of k8 hj)) Tryz.underlying34 rfl (by rw [l8]; kernel_rfl) (by kernel_rfl) ?_; simp only [Act.put, List.setIfInBounds_toArray, List.set_cons_succ, List.set_cons_zero]) | go_big_quiet_step (first | (go_at_call 12; exact q9_of (OneV.it (by first | exact U1) _ (by with_reducible repeat (first | exact ex_refl _ | exact ex_more9 | apply ex_alloc | apply ex_plus | apply ex_drew | apply ex_drewN)))) | (go_at_call 16; exact q9_of (OneV.it (by first | exact U2) _ (by with_reducible repeat (first | exact ex_refl _ | exact ex_more9 | apply ex_alloc | apply ex_plus | apply ex_drew | apply ex_drewN)))) | (go_at_call 17; exact q9_of (TwoV.it (by first | exact U3) _ (by with_reducible repeat (first | exact ex_refl _ | exact ex_more9 | apply ex_alloc | apply ex_plus | apply ex_drew | apply ex_drewN)))) | (go_at_call 18; exact q9_of (TwoV.it (by first | exact U4) _ (by with_reducible repeat (first | exact ex_refl _ | exact ex_more9 | apply ex_alloc | apply ex_plus | apply ex_drew | apply ex_drewN)))) | (go_at_call 19; exact q9_of (TwoV.it (by first | exact U5 | exact U7) _ (by with_reducible repeat (first | exact ex_refl _ | exact ex_more9 | apply ex_alloc | apply ex_plus | apply ex_drew | apply ex_drewN)))) | (go_at_call 20; exact q9_of (TwoV.it (by first | exact U6 | exact U8) _ (by with_reducible repeat (first | exact ex_refl _ | exact ex_more9 | apply ex_alloc | apply ex_plus | apply ex_drew | apply ex_drewN)))))))
    refine wpQuiet_nil ?_
    rintro _ ⟨x9, rfl⟩
    go_upto_region 7 with (first | (with_reducible refine wpList_row_guarded 34 (Operand.tmp 8) rfl q8 (by kernel_rfl) _ _ _ _ (blk_ex ((by with_reducible repeat (first | exact ex_refl _ | exact ex_more9 | apply ex_alloc | apply ex_plus | apply ex_drew | apply ex_drewN))) k8) Tryz.underlying34 (by kernel_rfl) (by rw [a8]; kernel_rfl) (by kernel_rfl) ?_) | (go_at_call 21; refine (SP.it _ (by with_reducible repeat (first | exact ex_refl _ | exact ex_more9 | apply ex_alloc | apply ex_plus | apply ex_drew | apply ex_drewN))).mono ?_; rintro e w9 ⟨rfl, X9⟩))
    have i09 := blk_ex X9 i0
    have i79 := blk_ex X9 k7
    go_wp2_with (first | (with_reducible refine wpList_row_guarded 34 (Operand.tmp 7) rfl q7 (by kernel_rfl) _ _ _ _ (blk_ex ((by with_reducible repeat (first | exact ex_refl _ | exact ex_more9 | apply ex_alloc | apply ex_plus | apply ex_drew | apply ex_drewN))) i79) Tryz.underlying34 (by kernel_rfl) (by rw [a7]; kernel_rfl) (by kernel_rfl) ?_) | (with_reducible refine wpList_row_guarded 34 (Operand.tmp 3) rfl b (by kernel_rfl) _ _ _ _ (blk_ex ((by with_reducible repeat (first | exact ex_refl _ | exact ex_more9 | apply ex_alloc | apply ex_plus | apply ex_drew | apply ex_drewN))) i09) Tryz.underlying34 (by kernel_rfl) (by rw [a0]; kernel_rfl) (by kernel_rfl) ?_) | (go_at_call 19; refine (U9.it _ (ex_trans X9 (by with_reducible repeat (first | exact ex_refl _ | exact ex_more9 | apply ex_alloc | apply ex_plus | apply ex_drew | apply ex_drewN)))).mono ?_; rintro e w' ⟨rfl, nx, rfl⟩))
    go_ret
    exact ⟨rfl, below_ex (ex_trans (ex_trans XE.it X9) (by with_reducible repeat (first | exact ex_refl _ | exact ex_more9 | apply ex_alloc | apply ex_plus | apply ex_drew | apply ex_drewN)))⟩
  · refine region_plus (by kernel_rfl) (by kernel_rfl) ?_
    (repeat (first | go_big_quiet_skip | (refine wpQuiet_load_guarded 34 (Operand.tmp 3) rfl b 0 (by kernel_rfl) (c0) _ (fun w' hw j v hj => cell_ex hw (by rw [Nat.zero_add]; exact cell_of j0 hj)) Tryz.underlying34 rfl (by rw [l0]; kernel_rfl) (by kernel_rfl) ?_; simp only [Act.put, List.setIfInBounds_toArray, List.set_cons_succ, List.set_cons_zero]) | (refine wpQuiet_load_guarded 34 (Operand.tmp 4) rfl (b + 1) 0 (by kernel_rfl) (c1) _ (fun w' hw j v hj => cell_ex hw (by rw [Nat.zero_add]; exact cell_of j1 hj)) Tryz.underlying34 rfl (by rw [l1]; kernel_rfl) (by kernel_rfl) ?_; simp only [Act.put, List.setIfInBounds_toArray, List.set_cons_succ, List.set_cons_zero]) | (refine wpQuiet_load_guarded 56 (Operand.tmp 5) rfl (b + 2) 0 (by kernel_rfl) (cn) _ (fun w' hw j v hj => cell_ex hw (by rw [Nat.zero_add]; exact cell_of j2 hj)) Tryz.underlying56 rfl (by rw [ln]; kernel_rfl) (by kernel_rfl) ?_; simp only [Act.put, List.setIfInBounds_toArray, List.set_cons_succ, List.set_cons_zero]) | (refine wpQuiet_load_guarded 34 (Operand.tmp 7) rfl q7 0 (by kernel_rfl) (c7) _ (fun w' hw j v hj => cell_ex hw (by rw [Nat.zero_add]; exact cell_of j7 hj)) Tryz.underlying34 rfl (by rw [l7]; kernel_rfl) (by kernel_rfl) ?_; simp only [Act.put, List.setIfInBounds_toArray, List.set_cons_succ, List.set_cons_zero]) | (refine wpQuiet_load_guarded 34 (Operand.tmp 8) rfl q8 0 (by kernel_rfl) (c8) _ (fun w' hw j v hj => cell_ex hw (by rw [Nat.zero_add]; exact cell_of k8 hj)) Tryz.underlying34 rfl (by rw [l8]; kernel_rfl) (by kernel_rfl) ?_; simp only [Act.put, List.setIfInBounds_toArray, List.set_cons_succ, List.set_cons_zero]) | go_big_quiet_step (first | (go_at_call 12; exact q9_of (OneV.it (by first | exact U1) _ (by with_reducible repeat (first | exact ex_refl _ | exact ex_more9 | apply ex_alloc | apply ex_plus | apply ex_drew | apply ex_drewN)))) | (go_at_call 16; exact q9_of (OneV.it (by first | exact U2) _ (by with_reducible repeat (first | exact ex_refl _ | exact ex_more9 | apply ex_alloc | apply ex_plus | apply ex_drew | apply ex_drewN)))) | (go_at_call 17; exact q9_of (TwoV.it (by first | exact U3) _ (by with_reducible repeat (first | exact ex_refl _ | exact ex_more9 | apply ex_alloc | apply ex_plus | apply ex_drew | apply ex_drewN)))) | (go_at_call 18; exact q9_of (TwoV.it (by first | exact U4) _ (by with_reducible repeat (first | exact ex_refl _ | exact ex_more9 | apply ex_alloc | apply ex_plus | apply ex_drew | apply ex_drewN)))) | (go_at_call 19; exact q9_of (TwoV.it (by first | exact U5 | exact U7) _ (by with_reducible repeat (first | exact ex_refl _ | exact ex_more9 | apply ex_alloc | apply ex_plus | apply ex_drew | apply ex_drewN)))) | (go_at_call 20; exact q9_of (TwoV.it (by first | exact U6 | exact U8) _ (by with_reducible repeat (first | exact ex_refl _ | exact ex_more9 | apply ex_alloc | apply ex_plus | apply ex_drew | apply ex_drewN)))))))
    refine wpQuiet_nil ?_
    rintro _ ⟨x9, rfl⟩
    go_upto_region 7 with (first | (with_reducible refine wpList_row_guarded 34 (Operand.tmp 8) rfl q8 (by kernel_rfl) _ _ _ _ (blk_ex ((by with_reducible repeat (first | exact ex_refl _ | exact ex_more9 | apply ex_alloc | apply ex_plus | apply ex_drew | apply ex_drewN))) k8) Tryz.underlying34 (by kernel_rfl) (by rw [a8]; kernel_rfl) (by kernel_rfl) ?_) | (go_at_call 21; refine (SP.it _ (by with_reducible repeat (first | exact ex_refl _ | exact ex_more9 | apply ex_alloc | apply ex_plus | apply ex_drew | apply ex_drewN))).mono ?_; rintro e w9 ⟨rfl, X9⟩))
    have i09 := blk_ex X9 i0
    have i79 := blk_ex X9 k7
    go_wp2_with (first | (with_reducible refine wpList_row_guarded 34 (Operand.tmp 7) rfl q7 (by kernel_rfl) _ _ _ _ (blk_ex ((by with_reducible repeat (first | exact ex_refl _ | exact ex_more9 | apply ex_alloc | apply ex_plus | apply ex_drew | apply ex_drewN))) i79) Tryz.underlying34 (by kernel_rfl) (by rw [a7]; kernel_rfl) (by kernel_rfl) ?_) | (with_reducible refine wpList_row_guarded 34 (Operand.tmp 3) rfl b (by kernel_rfl) _ _ _ _ (blk_ex ((by with_reducible repeat (first | exact ex_refl _ | exact ex_more9 | apply ex_alloc | apply ex_plus | apply ex_drew | apply ex_drewN))) i09) Tryz.underlying34 (by kernel_rfl) (by rw [a0]; kernel_rfl) (by kernel_rfl) ?_) | (go_at_call 19; refine (U9.it _ (ex_trans X9 (by with_reducible repeat (first | exact ex_refl _ | exact ex_more9 | apply ex_alloc | apply ex_plus | apply ex_drew | apply ex_drewN)))).mono ?_; rintro e w' ⟨rfl, nx, rfl⟩))
    go_ret
    exact ⟨rfl, below_ex (ex_trans (ex_trans XE.it X9) (by with_reducible repeat (first | exact ex_refl _ | exact ex_more9 | apply ex_alloc | apply ex_plus | apply ex_drew | apply ex_drewN)))⟩

set_option maxRecDepth 100000 in
theorem editMays_lifted (os : Os) (started : os.Started) (H : Type) (enc : TypeId × Value → H) :
    ReturnsInHanded {} Tryz.checked os 4 .any (Rows.editMaysSpec.pre6 enc Tryz.prog Tryz.f4 Rows.editMaysRow.domain false) (Rows.editMaysSpec.post enc Tryz.prog Tryz.f4 false true false false) := by
  refine returnsInHanded_of_change_sized (C := Tryz.checked) own started (by kernel_rfl) Tryz.func4
    (ChangeSpec.witness6 (enc := enc) (C := Tryz.checked) false ⟨#[], #[.agg #[.slice none 0 0, .slice none 0 0, .slice none 0 0, .slice none 0 0, .slice none 0 0, .int .i64 0, .int .i64 0], .agg #[.slice none 0 0, .slice none 0 0, .slice none 0 0, .slice none 0 0, .slice none 0 0, .int .i64 0, .int .i64 0], .agg (List.toArray (.int .u8 0 :: .int .i64 0 :: .int .i64 0 :: .int .i64 0 :: .int .i64 0 :: .int .i64 0 :: .int .i64 0 :: .int .i64 0 :: .int .i64 0 :: .int .i64 0 :: .int .i64 0 :: .int .i64 0 :: .int .i64 0 :: .int .u16 0 :: .int .i64 0 :: .int .i64 0 :: .int .i64 0 :: .slice none 0 0 :: .int .i64 0 :: .int .u8 0 :: .int .u8 0 :: .int .u8 0 :: .int .u8 0 :: .int .u8 0 :: .int .u8 0 :: .int .u8 0 :: .int .u8 0 :: .int .u8 0 :: .int .i64 0 :: .int .u8 0 :: .int .i64 0 :: .bool false :: .int .i64 0 :: []))], []⟩ 8 (by kernel_rfl) (by kernel_rfl) (by kernel_rfl) (by kernel_rfl)) ?_
  intro W base args ds gs before hval0 hW hcnd hsz _
  have hval : ∀ (j : Nat) t v, Tryz.f4.params[j]? = some t → args[j]? = some v → Value.okWide Tryz.prog W .any base t v := hval0
  have hW' := hW
  obtain ⟨p, q, hA0, hV, rfl, hfz, hnd⟩ := hW
  have hA : DataW.TrodAll enc Tryz.prog W 0 (fun _ => true) true Tryz.f4.params.toList args.toList ds p := hA0
  rw [Tryz.params4] at hA hval
  obtain ⟨v0, vs0, d0, ds0, p0, q0, hargs, rfl, rfl, h0, r0⟩ := trodAll_cons hA
  obtain ⟨v1, vs1, d1, ds1, p1, q1, rfl, rfl, rfl, h1, r1⟩ := trodAll_cons r0
  obtain ⟨v2, vs2, d2, ds2, p2, q2, rfl, rfl, rfl, h2, r2⟩ := trodAll_cons r1
  obtain ⟨rfl, rfl, rfl⟩ := trodAll_nil r2
  obtain rfl : args = #[v0, v1, v2] := by cases args; simp_all
  obtain ⟨zh0, zx0, zs0, rfl, hG0, hR0⟩ := open_scene (sm_of hsz (j := 0) (by kernel_rfl) rfl) (hval 0 34 v0 rfl rfl) h0
  obtain ⟨zh1, zx1, zs1, rfl, hG1, hR1⟩ := open_scene (sm_of hsz (j := 1) (by kernel_rfl) rfl) (hval 1 34 v1 rfl rfl) h1
  obtain ⟨zh2, zn2, rfl, hN2⟩ := open_node (hval 2 56 v2 rfl rfl) h2
  refine (editMays_walk zh0 zx0 zs0 zh1 zx1 zs1 zh2 zn2  W hG0 hR0 hG1 hR1 hN2).mono fun e W' ⟨he, hb⟩ => ?_
  exact ⟨_, he, law_post laidOut Tryz.underlying4 rfl (by kernel_rfl) (by kernel_rfl) (fun ds h => match ds, h with | [_, _, _], _ => rfl) hW' hb⟩

theorem editMays_holds : Rows.EditMaysSaid :=
  OpenClaim.holds_of_wide 4 Tryz.f4 rfl rfl rfl rfl rfl rfl rfl ⟨rfl, rfl, rfl, rfl, rfl⟩ rfl rfl rfl rfl rfl (by kernel_rfl) Tryz.func4 (by kernel_rfl)
    (of_decide_eq_true (by kernel_rfl)) (by unfold Func.isWrapper; first | (rw [if_pos (by decide +kernel)]; kernel_rfl) | (rw [if_neg (by decide +kernel)]; exact ⟨rfl, rfl⟩))
    (fun os started H enc _ => editMays_lifted os started H enc)
#print axioms editMays_holds

end

end Go.Proofs.YtcekcihijdipoaaGreat
