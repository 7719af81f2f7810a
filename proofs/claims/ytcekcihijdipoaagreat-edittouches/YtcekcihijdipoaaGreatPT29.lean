/- A pack of texts: EdTouW. -/
import Derived.Deep.DeepCutAuto
import Derived.Test.YtcekcihijdipoaaGreatPT28
import Derived.Test.YtcekcihijdipoaaGreatPT1
namespace Go.Proofs.YtcekcihijdipoaaGreat

section


open Go.RowKit Go.ChangeShapes Go.WideShapes Go.ChangeAt

set_option linter.unusedSimpArgs false

set_option linter.unusedVariables false

attribute [local go_sem] plus_size plus_drew dn_set dn_alloc dn_plus plus_dn cell_plus frozen_plus set_plus cell_alloc frozen_alloc set_alloc

set_option maxRecDepth 100000 in
set_option maxHeartbeats 16000000 in
theorem editTouches_walk (zh0 : SH) (zx0 : SX) (zs0 : Sc) (zh1 : EH) (zp1 : List PH) (zn1 : Nd) (zm1 : Ms) (zt1 : Tp) (w : World) (hG0 : GrIn w zh0.ga zh0.gn zh0.ka zh0.kn zx0.gr zs0.g) (hR0 : RestAt w zh0 zx0 zs0) (hE1 : EditAt w zh1 zp1 zn1 zm1 zt1) (hcap : zh0.mn ≤ zh0.mc ∧ zh0.tn ≤ zh0.tc) :
    Calls Tryz.prog 7 #[vS zh0, vE zh1] w fun e w' => e = .returned (.bool true) ∧ Below w.heap.size w w' := by
  show Calls Tryz.prog 7 #[.agg (scCells zh0).toArray, .agg (fE zh1).toArray] w fun e w' => e = .returned (.bool true) ∧ Below w.heap.size w w'
  have m0 : (fE zh1)[0]? = some (.int .u8 zh1.kind) := rfl
  have m1 : (fE zh1)[1]? = some (.int .i64 zh1.h0) := rfl
  obtain ⟨bg, hbg⟩ : ∃ b, greatSc zh0 zx0 = b := ⟨_, rfl⟩
  obtain ⟨be, hbe⟩ : ∃ b, greatEd zh1 zp1 = b := ⟨_, rfl⟩
  have few0 : bg = false → ScAt w zh0 zx0 zs0 := fun e => few_great hG0 hR0 (hbg.trans e)
  have V0 : OneV 13 w (scCells zh0) (.bool bg) := ⟨fun w' hw => great10_is (hG0.ex10 hw) (hR0.ex hw) hbg⟩
  have GE : OneV 22 w (fE zh1) (.bool be) := ⟨fun w' hw => greatE_is (hE1.ex hw) hbe⟩
  have hfar : be = false → zh1.nd.n ≤ 10000 := fun q => by
    rw [q] at hbe
    simp only [greatEd, Bool.or_eq_false_iff, decide_eq_false_iff_not] at hbe
    omega
  have hroot0 := hR0.root
  replace few0 := Hush9.mk few0
  replace hfar := Hush9.mk hfar
  clear hG0 hR0 hbg hbe
  obtain ⟨b, hb⟩ : ∃ b, w.heap.size = b := ⟨_, rfl⟩
  go_enter Tryz.func7, Tryz.ntmps7
  go_upto_region 1 with fail
  refine name_w (fun w' => (∃ y, w' = plus w y) ∧ w'.heap[b]? = some (.cells (scCells zh0).toArray 34) ∧ w'.heap[b + 1]? = some (.cells (fE zh1).toArray 66)) ⟨sk9, hb ▸ blk_old (blk_new2 _ _), by rw [← hb]; exact blk_new3 _ _ _⟩ ?_
  try simp only [hb]
  rintro w0 ⟨x0, k0, k1⟩
  go_upto_region 2 with (go_at_call 11; refine (alive_calls _).mono ?_; rintro e w' ⟨rfl, nx9, rfl⟩)
  refine name_w (fun w' => ∃ y, w' = plus w0 y) sk9 ?_
  rintro w1 x1
  have g1 := ex_trans x0 x1
  have k0 := blk_ex x1 k0
  have k1 := blk_ex x1 k1
  cases bg
  rotate_left
  · go_wp2_with (first | (refine wpList_load_row rfl 34 (Operand.tmp 2) rfl b (by kernel_rfl) _ _ _ _ (by exact blk_ex (sk9) k0) Tryz.underlying34 rfl (by kernel_rfl) ?_) | (go_at_call 13; refine (V0.it _ (ex_trans g1 sk9)).mono ?_; rintro e w' ⟨rfl, nx, rfl⟩))
    go_ret
    exact ⟨rfl, below_ex (ex_trans g1 sk9)⟩
  cases be
  rotate_left
  · go_wp2_with (first | (refine wpList_load_row rfl 34 (Operand.tmp 2) rfl b (by kernel_rfl) _ _ _ _ (by exact blk_ex (sk9) k0) Tryz.underlying34 rfl (by kernel_rfl) ?_) | (with_reducible refine wpList_row_guarded 66 (Operand.tmp 3) rfl (b + 1) (by kernel_rfl) _ _ _ _ (blk_ex (sk9) k1) Tryz.underlying66 (by kernel_rfl) (by kernel_rfl) (by kernel_rfl) ?_) | (go_at_call 13; refine (V0.it _ (ex_trans g1 sk9)).mono ?_; rintro e w' ⟨rfl, nx, rfl⟩) | (go_at_call 22; refine (GE.it _ (ex_trans g1 sk9)).mono ?_; rintro e w' ⟨rfl, nx8, rfl⟩))
    go_ret
    exact ⟨rfl, below_ex (ex_trans g1 sk9)⟩
  have A0 := (few0.it (by first | rfl | trivial)).ex g1
  have E1 := hE1.ex g1
  have hfar := hfar.it (by first | rfl | trivial)
  clear few0
  obtain ⟨d, hd⟩ : ∃ v, toEd zh1 zn1 zm1 zt1 = v := ⟨_, rfl⟩
  obtain ⟨er, her⟩ : ∃ v, doErr zs0 d = v := ⟨_, rfl⟩
  obtain ⟨S, hS⟩ : ∃ v, doSc zs0 d = v := ⟨_, rfl⟩
  obtain ⟨A, hA⟩ : ∃ v, (tookH zs0 d).1 = v := ⟨_, rfl⟩
  obtain ⟨B, hB⟩ : ∃ v, (tookH zs0 d).2 = v := ⟨_, rfl⟩
  obtain ⟨C, hC⟩ : ∃ v, tookN zs0 d = v := ⟨_, rfl⟩
  have hfewS : FewSc S := hS ▸ few_do
  have D1 : DoV w1 (scCells zh0) (fE zh1) A B C er S := do_v A0 E1 hfar (Prod.ext (hd ▸ hA) (hd ▸ hB)) (hd ▸ hC) (hd ▸ her) (hd ▸ hS)
  go_upto_region 4 with (first | (refine wpList_load_row rfl 34 (Operand.tmp 2) rfl b (by kernel_rfl) _ _ _ _ (by exact blk_ex (sk9) k0) Tryz.underlying34 rfl (by kernel_rfl) ?_) | (with_reducible refine wpList_row_guarded 66 (Operand.tmp 3) rfl (b + 1) (by kernel_rfl) _ _ _ _ (blk_ex (sk9) k1) Tryz.underlying66 (by kernel_rfl) (by kernel_rfl) (by kernel_rfl) ?_) | (go_at_call 13; refine (V0.it _ (ex_trans g1 sk9)).mono ?_; rintro e w' ⟨rfl, nx, rfl⟩) | (go_at_call 22; refine (GE.it _ (ex_trans g1 sk9)).mono ?_; rintro e w' ⟨rfl, nx8, rfl⟩))
  refine name_w (fun w' => ∃ y, w' = plus w1 y) sk9 ?_
  rintro w2 x2
  have k02 := blk_ex x2 k0
  have k12 := blk_ex x2 k1
  go_upto_region 5 with (first | (refine wpList_load_row rfl 34 (Operand.tmp 2) rfl b (by kernel_rfl) _ _ _ _ (by exact blk_ex (sk9) k02) Tryz.underlying34 rfl (by kernel_rfl) ?_) | (refine wpList_load_row rfl 66 (Operand.tmp 3) rfl (b + 1) (by kernel_rfl) _ _ _ _ (by exact blk_ex (sk9) k12) Tryz.underlying66 rfl (by kernel_rfl) ?_) | (go_at_call 9; refine (D1.it _ (ex_trans x2 sk9)).mono ?_; rintro r w3 ⟨h3, y3, rfl, x3, o3⟩) | (refine wpList_store_box rfl 34 (Operand.tmp 6) _ rfl w3.heap.size (scCells h3) (by simp [go_sem]) rfl 34 (scCells sh0).toArray (by exact blk_old (blk_new2 _ _)) (by kernel_rfl) (by kernel_rfl) (scCells_1 _) ?_) | (refine wpList_store_box rfl 36 (Operand.tmp 7) _ rfl (w3.heap.size + 1) [.int .i64 A, .int .i64 B, .int .i64 C] (by simp [go_sem]) rfl 36 #[.int .i64 0, .int .i64 0, .int .i64 0] (by exact blk_row_far (blk_new3 _ _ _) (by omega)) (by kernel_rfl) rfl (by intro v hv; simp at hv; rcases hv with rfl | rfl | rfl <;> rfl) ?_))
  refine name_w (fun w' => (∃ y, w' = plus w3 y) ∧ w'.heap[w3.heap.size]? = some (.cells (scCells h3).toArray 34) ∧ w'.heap[w3.heap.size + 1]? = some (.cells #[.int .i64 A, .int .i64 B, .int .i64 C] 36)) ⟨ex_row_new (ex_row_new sk9 (Nat.le_refl _)) (Nat.le_succ _), blk_row_far (blk_row_eq (blk_old (blk_new2 _ _))) (by omega), blk_row_eq (blk_row_far (blk_new3 _ _ _) (by omega))⟩ ?_
  obtain ⟨b3, hb3⟩ : ∃ b, w3.heap.size = b := ⟨_, rfl⟩
  try simp only [hb3]
  rintro v3 ⟨z3, p3, q3⟩
  have g3 := ex_trans x3 z3
  have g13 := ex_trans x2 g3
  have k03 := blk_ex g3 k02
  have k13 := blk_ex g3 k12
  by_cases h0 : er = 0
  rotate_left
  · have d0 : (er == 0) = false := by rw [beq_eq_false_iff_ne]; exact h0
    go_wp2
    go_ret
    exact ⟨rfl, below_ex (ex_trans (ex_trans g1 g13) sk9)⟩
  subst h0
  obtain ⟨hm, hed, hsc⟩ := doErr_may her
  have TO := touch hm hed
  rw [← hsc, hS] at TO
  have hzk : zs0.ns.length ≤ zs0.g.ks.length := Nat.le_of_eq (may_parts hm).2.1
  have hzs : zs0.ns.length ≤ zs0.g.sl.length := Nat.le_trans hzk (Nat.le_of_eq (gr_parts (may_parts hm).1).2.1)
  have hkd : d.kind = zh1.kind := by rw [← hd]; rfl
  have hdh : d.h.1 = zh1.h0 := by rw [← hd]; rfl
  have hAk : d.kind = 1 → A = mkSlot zs0.g.sl := fun q => by rw [← hA, tookH, if_pos ⟨her, q⟩]
  have hC6 : d.kind = 6 → C = placeAt d.p zs0.ms.length := fun q => by rw [← hC, tookN, if_pos her, if_pos q]
  have hC7 : d.kind = 7 → C = placeAt d.p zs0.ts.length := fun q => by rw [← hC, tookN, if_pos her, if_neg (by omega), if_pos q]
  have hro3 := o3.root
  have hcp3 : h3.mn ≤ h3.mc ∧ h3.tn ≤ h3.tc := ⟨o3.ml.cap_le, o3.tl.cap_le⟩
  have A1 := (o3.at hfewS).ex z3
  have AZ := A0.ex g13
  have GA := ex_trans g1 g13
  obtain ⟨kd, hkk⟩ : ∃ v, zh1.kind = v := ⟨_, rfl⟩
  rw [hkk] at m0 hkd
  rw [hkd] at hAk hC6 hC7
  have n3 := A1.nn
  have nz := AZ.nn
  have g3k := A1.g.kl
  have gzk := AZ.g.kl
  have g3s := A1.g.sl.len
  have gzs := AZ.g.sl.len
  have smz := AZ.small
  have sm3 := A1.small
  have hnn6 : zh0.nn ≤ 1000 := by have := AZ.f.nn; omega
  have e2 : v3.cell? ⟨b, 2, none⟩ = some (.slice zh0.na zh0.nn zh0.nc) := cell_of k03 rfl
  have f2' : v3.cell? ⟨b3, 2, none⟩ = some (.slice h3.na h3.nn h3.nc) := cell_of p3 rfl
  have e0 : v3.cell? ⟨b, 0, none⟩ = some (.slice zh0.ga zh0.gn zh0.gc) := cell_of k03 rfl
  have e1 : v3.cell? ⟨b, 1, none⟩ = some (.slice zh0.ka zh0.kn zh0.kc) := cell_of k03 rfl
  have f0 : v3.cell? ⟨b3, 0, none⟩ = some (.slice h3.ga h3.gn h3.gc) := cell_of p3 rfl
  have f1 : v3.cell? ⟨b3, 1, none⟩ = some (.slice h3.ka h3.kn h3.kc) := cell_of p3 rfl
  have u0 : v3.cell? ⟨b + 1, 0, none⟩ = some (.int .u8 kd) := cell_of k13 m0
  have u1 : v3.cell? ⟨b + 1, 1, none⟩ = some (.int .i64 zh1.h0) := cell_of k13 m1
  have c0 : v3.cell? ⟨b3 + 1, 0, none⟩ = some (.int .i64 A) := cell_blk q3 rfl
  have c2 : v3.cell? ⟨b3 + 1, 2, none⟩ = some (.int .i64 C) := cell_blk q3 rfl
  have lz := blk_lt k03
  have lz1 := blk_lt k13
  have l3 := blk_lt p3
  have lq := blk_lt q3
  obtain ⟨sl, hsl⟩ : ∃ v, touched zs0 d = v := ⟨_, rfl⟩
  have hsl' := hsl
  unfold touched at hsl'
  rw [hkd, hdh] at hsl'
  clear D1 V0 GE hA hB hC her hS hed hsc hfewS hm hfar m0 m1 x3 z3 k02 k12 k0 k1 x2 x1 x0 o3 hdh hkk hd hE1 E1 A0
  replace TO := Hush9.mk TO
  replace hsl := Hush9.mk hsl
  replace hro3 := Hush9.mk hro3
  replace hroot0 := Hush9.mk hroot0
  replace hC6 := Hush9.mk hC6
  replace hC7 := Hush9.mk hC7
  replace hkd := Hush9.mk hkd
  by_cases q1 : kd = 1
  · have r1 : (kd == 1) = true := by rw [beq_iff_eq]; exact q1
    have r6 : (kd == 6) = false := by rw [beq_eq_false_iff_ne]; omega
    have r7 : (kd == 7) = false := by rw [beq_eq_false_iff_ne]; omega
    have r8 : (kd == 8) = false := by rw [beq_eq_false_iff_ne]; omega
    rw [if_neg (by omega), if_pos q1, ← hAk q1] at hsl'
    obtain rfl : sl = A := hsl'.symm
    clear hAk
    replace q1 := Hush9.mk q1
    go_upto_region 12 with fail
    as_aux_lemma =>
      go_wp2
      go_loopw [10] (fun i wr => ∃ j : Nat, j ≤ zh0.nn ∧ i = .int .i64 j ∧ ∃ y, wr = plus v3 y) (fun i _ => zh0.nn - (intOf i).toNat)
      case atStart => exact ⟨0, Nat.zero_le _, rfl, sk9⟩
      case round =>
        obtain ⟨j, hj, rfl, y, rfl⟩ := hrel
        by_cases hjl : j < zh0.nn
        · have ij : (j : Int) < (zh0.nn : Int) := by omega
          have T1 := TO.it.nl
          have T2 := TO.it.kl
          have T3 := TO.it.sl
          have i2 : (j : Int) < (h3.nn : Int) := by omega
          have i3 : (j : Int) < (h3.kn : Int) := by omega
          have i4 : (j : Int) < (h3.gn : Int) := by omega
          obtain ⟨gn1, on1, hna1, hgn1, hcn1⟩ := A1.r.nl.some (by omega)
          obtain ⟨gn2, on2, hna2, hgn2, hcn2⟩ := AZ.r.nl.some (by omega)
          obtain ⟨gk1, ok1, hka1, hgk1, hck1⟩ := A1.g.kh.some (by omega)
          obtain ⟨gk2, ok2, hka2, hgk2, hck2⟩ := AZ.g.kh.some (by omega)
          obtain ⟨gs1, os1, hsa1, hgs1, hcs1⟩ := A1.g.sl.some (by omega)
          obtain ⟨gs2, os2, hsa2, hgs2, hcs2⟩ := AZ.g.sl.some (by omega)
          rw [hna1] at f2'
          rw [hna2] at e2
          rw [hka1] at f1
          rw [hka2] at e1
          rw [hsa1] at f0
          rw [hsa2] at e0
          have hp1 := lay_part (d := nh0) n3.2 fN_c hcn1 (k := j) (by omega)
          have hp2 := lay_part (d := nh0) nz.2 fN_c hcn2 (k := j) (by omega)
          have kr1 := cellR A1.g.kh.len hck1 (k := j) (by omega)
          have kr2 := cellR AZ.g.kh.len hck2 (k := j) (by omega)
          have ks1 := cellS g3s hcs1 (k := j) (by omega)
          have ks2 := cellS gzs hcs2 (k := j) (by omega)
          have a1 := A1.r.ns.one j (by omega)
          have a2 := AZ.r.ns.one j (by omega)
          have s1 := sm3.n j (by omega)
          have s2 := smz.n j (by omega)
          have r1 := A1.g.row j (by rw [A1.g.kh.len]; omega)
          have r2 := AZ.g.row j (by rw [AZ.g.kh.len]; omega)
          have rn1 := A1.g.n3 j (by rw [A1.g.kh.len]; omega)
          have hn := TO.it.n j (by omega)
          have hr := TO.it.k j (by omega)
          have hv := TO.it.v j (by omega)
          rw [hsl.it] at hn hr hv
          have hP := Hush9.mk (And.intro hp1 hp2)
          clear hp1 hp2 hcn1 hcn2 hck1 hck2 hcs1 hcs2
          by_cases hjs : (j : Int) = sl
          · have djs : ((j : Int) == sl) = true := by rw [beq_iff_eq]; exact hjs
            clear hn hr hv
            replace hjs := Hush9.mk hjs
            go_wp2
            go_roundw
            case rel => exact ⟨j + 1, by omega, by go_num, sk9⟩
            case measure => simp [intOf]; omega
          have djs : ((j : Int) == sl) = false := by rw [beq_eq_false_iff_ne]; exact hjs
          have hQ := Hush9.mk (hn hjs)
          rw [hv hjs] at ks1
          by_cases k5 : kd = 5
          · have q5 : (kd == 5) = true := by rw [beq_iff_eq]; exact k5
            have b5 : (kd != 5) = false := by rw [bne, q5]; rfl
            clear hn hr hv hjs
            replace k5 := Hush9.mk k5
            go_wp2
            refine region_plus (by kernel_rfl) (by kernel_rfl) ?_
            (repeat (first | go_big_quiet_skip | (refine wpQuiet_load_guarded 56 (Operand.tmp 71) rfl gn1 (on1 + j * 33) rfl (fN (nth nh0 y3.nh j)) _ (fun w' hw jj v hj => cell_ex (ex_trans sk9 hw) (hP.it.1 jj v hj)) Tryz.underlying56 rfl (by kernel_rfl) (by kernel_rfl) ?_; simp only [Act.put, List.setIfInBounds_toArray, List.set_cons_succ, List.set_cons_zero]) | (refine wpQuiet_load_guarded 56 (Operand.tmp 76) rfl gn2 (on2 + j * 33) rfl (fN (nth nh0 zx0.nh j)) _ (fun w' hw jj v hj => cell_ex (ex_trans sk9 hw) (hP.it.2 jj v hj)) Tryz.underlying56 rfl (by kernel_rfl) (by kernel_rfl) ?_; simp only [Act.put, List.setIfInBounds_toArray, List.set_cons_succ, List.set_cons_zero]) | go_big_quiet_step (first | (go_at_call 24; exact q9_of (same_is (h := nth nh0 y3.nh j) (h2 := nth nh0 zx0.nh j) hQ.it (a1.ex sk9) (a2.ex sk9) s1 s2)) | (go_at_call 25; exact q9_of (kids_is hR.it (r1.ex sk9) (r2.ex sk9) (by omega))))))
            refine wpQuiet_nil ?_
            rintro _ ⟨x9, rfl⟩
            go_wp2
            go_roundw
            case rel => exact ⟨j + 1, by omega, by go_num, sk9⟩
            case measure => simp [intOf]; omega
          · have q5 : (kd == 5) = false := by rw [beq_eq_false_iff_ne]; exact k5
            have b5 : (kd != 5) = true := by rw [bne, q5]; rfl
            have hR := Hush9.mk (hr hjs (by rw [hkd.it]; exact k5))
            clear hn hr hv hjs
            replace k5 := Hush9.mk k5
            go_wp2
            refine region_plus (by kernel_rfl) (by kernel_rfl) ?_
            (repeat (first | go_big_quiet_skip | (refine wpQuiet_load_guarded 56 (Operand.tmp 71) rfl gn1 (on1 + j * 33) rfl (fN (nth nh0 y3.nh j)) _ (fun w' hw jj v hj => cell_ex (ex_trans sk9 hw) (hP.it.1 jj v hj)) Tryz.underlying56 rfl (by kernel_rfl) (by kernel_rfl) ?_; simp only [Act.put, List.setIfInBounds_toArray, List.set_cons_succ, List.set_cons_zero]) | (refine wpQuiet_load_guarded 56 (Operand.tmp 76) rfl gn2 (on2 + j * 33) rfl (fN (nth nh0 zx0.nh j)) _ (fun w' hw jj v hj => cell_ex (ex_trans sk9 hw) (hP.it.2 jj v hj)) Tryz.underlying56 rfl (by kernel_rfl) (by kernel_rfl) ?_; simp only [Act.put, List.setIfInBounds_toArray, List.set_cons_succ, List.set_cons_zero]) | go_big_quiet_step (first | (go_at_call 24; exact q9_of (same_is (h := nth nh0 y3.nh j) (h2 := nth nh0 zx0.nh j) hQ.it (a1.ex sk9) (a2.ex sk9) s1 s2)) | (go_at_call 25; exact q9_of (kids_is hR.it (r1.ex sk9) (r2.ex sk9) (by omega))))))
            refine wpQuiet_nil ?_
            rintro _ ⟨x9, rfl⟩
            go_wp2
            go_roundw
            case rel => exact ⟨j + 1, by omega, by go_num, sk9⟩
            case measure => simp [intOf]; omega
        · have ij : ¬ (j : Int) < (zh0.nn : Int) := by omega
          clear e0 e1 f0 f1
          obtain ⟨v4, hv4⟩ : ∃ v, plus v3 y = v := ⟨_, rfl⟩
          have x4 : ∃ y, v4 = plus v3 y := ⟨y, hv4.symm⟩
          rw [hv4]
          clear hv4
          have e2 := cell_ex x4 e2
          have k04 := blk_ex x4 k03
          have k14 := blk_ex x4 k13
          have p4 := blk_ex x4 p3
          have q4 := blk_ex x4 q3
          have hb4 := blk_lt k04
          have hb14 := blk_lt k14
          have hb34 := blk_lt p4
          have hq34 := blk_lt q4
          go_upto_region 19 with (first | (refine wpList_load_row rfl 34 (Operand.tmp 6) rfl b3 (by kernel_rfl) _ _ _ _ (by exact blk_ex (sk9) p4) Tryz.underlying34 rfl (by kernel_rfl) ?_) | (refine wpList_store_box rfl 34 (Operand.tmp 11) _ rfl v4.heap.size (scCells h3) (by simp [go_sem]) rfl 34 (scCells sh0).toArray (by exact blk_new2 _ _) (by kernel_rfl) (by kernel_rfl) (scCells_1 _) ?_))
          refine name_w (fun w' => (∃ y, w' = plus v4 y) ∧ w'.heap[v4.heap.size]? = some (.cells (scCells h3).toArray 34)) ⟨ex_row_new sk9 (Nat.le_refl _), blk_row_eq (blk_new2 _ _)⟩ ?_
          obtain ⟨ba, hba⟩ : ∃ v, v4.heap.size = v := ⟨_, rfl⟩
          try simp only [hba]
          rintro v5 ⟨x5, ka⟩
          have k05 := blk_ex x5 k04
          go_upto_region 20 with (first | (refine wpList_load_row rfl 34 (Operand.tmp 2) rfl b (by kernel_rfl) _ _ _ _ (by exact blk_ex (sk9) k05) Tryz.underlying34 rfl (by kernel_rfl) ?_) | (refine wpList_store_box rfl 34 (Operand.tmp 12) _ rfl v5.heap.size (scCells zh0) (by simp [go_sem]) rfl 34 (scCells sh0).toArray (by exact blk_new2 _ _) (by kernel_rfl) (by kernel_rfl) (scCells_1 _) ?_))
          refine name_w (fun w' => (∃ y, w' = plus v5 y) ∧ w'.heap[v5.heap.size]? = some (.cells (scCells zh0).toArray 34)) ⟨ex_row_new sk9 (Nat.le_refl _), blk_row_eq (blk_new2 _ _)⟩ ?_
          obtain ⟨bb, hbb⟩ : ∃ v, v5.heap.size = v := ⟨_, rfl⟩
          try simp only [hbb]
          rintro v6 ⟨x6, kb⟩
          have hab : ba < bb := by have := blk_lt ka; omega
          have ka6 := blk_ex x6 ka
          have aa0 := cell_of (i := 0) ka6 rfl
          have aa1 := cell_of (i := 1) ka6 rfl
          have aa2 := cell_of (i := 2) ka6 rfl
          have aa5 := cell_of (i := 5) ka6 rfl
          have aa6 := cell_of (i := 6) ka6 rfl
          have az0 := frozen_blk (i := 0) ka6
          have az1 := frozen_blk (i := 1) ka6
          have az2 := frozen_blk (i := 2) ka6
          have az5 := frozen_blk (i := 5) ka6
          have az6 := frozen_blk (i := 6) ka6
          have la6 := blk_lt ka6
          go_upto_region 21 with fail
          refine name_w (fun w' => (∃ y, w' = plus v4 y) ∧ w'.heap[ba]? = some (.cells (scCells (strip h3)).toArray 34) ∧ w'.heap[bb]? = some (.cells (scCells zh0).toArray 34)) ⟨ex_set_new (ex_set_new (ex_set_new (ex_set_new (ex_set_new (ex_trans x5 x6) (by omega)) (by omega)) (by omega)) (by omega)) (by omega), by have := blk_set (i := 6) (u := .int .i64 0) (blk_set (i := 5) (u := .int .i64 0) (blk_set (i := 2) (u := .slice none 0 0) (blk_set (i := 1) (u := .slice none 0 0) (blk_set (i := 0) (u := .slice none 0 0) (ka6))))); exact this, blk_set_far (blk_set_far (blk_set_far (blk_set_far (blk_set_far (kb) (by omega)) (by omega)) (by omega)) (by omega)) (by omega)⟩ ?_
          clear aa0 aa1 aa2 aa5 aa6 az0 az1 az2 az5 az6 la6 ka6
          rintro v7 ⟨x7, ka, kb⟩
          have aa0 := cell_of (i := 0) kb rfl
          have aa1 := cell_of (i := 1) kb rfl
          have aa2 := cell_of (i := 2) kb rfl
          have aa5 := cell_of (i := 5) kb rfl
          have aa6 := cell_of (i := 6) kb rfl
          have az0 := frozen_blk (i := 0) kb
          have az1 := frozen_blk (i := 1) kb
          have az2 := frozen_blk (i := 2) kb
          have az5 := frozen_blk (i := 5) kb
          have az6 := frozen_blk (i := 6) kb
          have la6 := blk_lt kb
          go_upto_region 22 with fail
          refine name_w (fun w' => (∃ y, w' = plus v4 y) ∧ w'.heap[ba]? = some (.cells (scCells (strip h3)).toArray 34) ∧ w'.heap[bb]? = some (.cells (scCells (strip zh0)).toArray 34)) ⟨ex_set_new (ex_set_new (ex_set_new (ex_set_new (ex_set_new (x7) (by omega)) (by omega)) (by omega)) (by omega)) (by omega), blk_set_far (blk_set_far (blk_set_far (blk_set_far (blk_set_far (ka) (by omega)) (by omega)) (by omega)) (by omega)) (by omega), by have := blk_set (i := 6) (u := .int .i64 0) (blk_set (i := 5) (u := .int .i64 0) (blk_set (i := 2) (u := .slice none 0 0) (blk_set (i := 1) (u := .slice none 0 0) (blk_set (i := 0) (u := .slice none 0 0) (kb))))); exact this⟩ ?_
          clear aa0 aa1 aa2 aa5 aa6 az0 az1 az2 az5 az6 la6
          rintro v8 ⟨x8, ka, kb⟩
          have x48 := ex_trans x4 x8
          have u0 := cell_ex x48 u0
          have u1 := cell_ex x48 u1
          have lz1 := blk_lt (blk_ex x8 k14)
          have A8 := A1.ex x48
          have Z8 := AZ.ex x48
          have G8 := ex_trans GA x48
          clear k04 p4 x5 x6 x7 k05 q4
          have n6 : ¬ kd = 6 := by have := q1.it; omega
          have n7 : ¬ kd = 7 := by have := q1.it; omega
          have b6 : (kd != 6) = true := by rw [bne, r6]; rfl
          have b7 : (kd != 7) = true := by rw [bne, r7]; rfl
          have hst := TO.it.st (by rw [hkd.it]; exact n6) (by rw [hkd.it]; exact n7)
          have SM : TwoV 20 v8 (scCells (strip h3)) (scCells (strip zh0)) (.bool true) := ⟨fun w' hw => lsame10_is (strip_at (A8.ex hw)) (strip_at (Z8.ex hw)) (by rw [show stripS S = stripS zs0 by rw [stripS, stripS, hst.1, hst.2]]; exact sameSc_refl _)⟩
          clear hst
          go_wp2_with (first | (refine wpList_load_row rfl 34 (Operand.tmp 11) rfl ba (by kernel_rfl) _ _ _ _ (by exact blk_ex (sk9) ka) Tryz.underlying34 rfl (by kernel_rfl) ?_) | (refine wpList_load_row rfl 34 (Operand.tmp 12) rfl bb (by kernel_rfl) _ _ _ _ (by exact blk_ex (sk9) kb) Tryz.underlying34 rfl (by kernel_rfl) ?_) | (go_at_call 20; refine (SM.it _ sk9).mono ?_; rintro e w' ⟨rfl, nx7, rfl⟩))
          go_ret
          exact ⟨rfl, by first | exact below_ex (ex_trans G8 sk9) | (rw [← hb]; exact below_ex (ex_trans G8 sk9))⟩
  have r1 : (kd == 1) = false := by rw [beq_eq_false_iff_ne]; exact q1
  clear hAk
  by_cases q6 : kd = 6 ∨ kd = 7 ∨ kd = 8
  rotate_left
  · have r6 : (kd == 6) = false := by rw [beq_eq_false_iff_ne]; omega
    have r7 : (kd == 7) = false := by rw [beq_eq_false_iff_ne]; omega
    have r8 : (kd == 8) = false := by rw [beq_eq_false_iff_ne]; omega
    rw [if_neg q6, if_neg q1] at hsl'
    rw [hsl'] at u1
    replace q6 := Hush9.mk q6
    clear q1
    go_upto_region 12 with fail
    as_aux_lemma =>
      go_wp2
      go_loopw [10] (fun i wr => ∃ j : Nat, j ≤ zh0.nn ∧ i = .int .i64 j ∧ ∃ y, wr = plus v3 y) (fun i _ => zh0.nn - (intOf i).toNat)
      case atStart => exact ⟨0, Nat.zero_le _, rfl, sk9⟩
      case round =>
        obtain ⟨j, hj, rfl, y, rfl⟩ := hrel
        by_cases hjl : j < zh0.nn
        · have ij : (j : Int) < (zh0.nn : Int) := by omega
          have T1 := TO.it.nl
          have T2 := TO.it.kl
          have T3 := TO.it.sl
          have i2 : (j : Int) < (h3.nn : Int) := by omega
          have i3 : (j : Int) < (h3.kn : Int) := by omega
          have i4 : (j : Int) < (h3.gn : Int) := by omega
          obtain ⟨gn1, on1, hna1, hgn1, hcn1⟩ := A1.r.nl.some (by omega)
          obtain ⟨gn2, on2, hna2, hgn2, hcn2⟩ := AZ.r.nl.some (by omega)
          obtain ⟨gk1, ok1, hka1, hgk1, hck1⟩ := A1.g.kh.some (by omega)
          obtain ⟨gk2, ok2, hka2, hgk2, hck2⟩ := AZ.g.kh.some (by omega)
          obtain ⟨gs1, os1, hsa1, hgs1, hcs1⟩ := A1.g.sl.some (by omega)
          obtain ⟨gs2, os2, hsa2, hgs2, hcs2⟩ := AZ.g.sl.some (by omega)
          rw [hna1] at f2'
          rw [hna2] at e2
          rw [hka1] at f1
          rw [hka2] at e1
          rw [hsa1] at f0
          rw [hsa2] at e0
          have hp1 := lay_part (d := nh0) n3.2 fN_c hcn1 (k := j) (by omega)
          have hp2 := lay_part (d := nh0) nz.2 fN_c hcn2 (k := j) (by omega)
          have kr1 := cellR A1.g.kh.len hck1 (k := j) (by omega)
          have kr2 := cellR AZ.g.kh.len hck2 (k := j) (by omega)
          have ks1 := cellS g3s hcs1 (k := j) (by omega)
          have ks2 := cellS gzs hcs2 (k := j) (by omega)
          have a1 := A1.r.ns.one j (by omega)
          have a2 := AZ.r.ns.one j (by omega)
          have s1 := sm3.n j (by omega)
          have s2 := smz.n j (by omega)
          have r1 := A1.g.row j (by rw [A1.g.kh.len]; omega)
          have r2 := AZ.g.row j (by rw [AZ.g.kh.len]; omega)
          have rn1 := A1.g.n3 j (by rw [A1.g.kh.len]; omega)
          have hn := TO.it.n j (by omega)
          have hr := TO.it.k j (by omega)
          have hv := TO.it.v j (by omega)
          rw [hsl.it] at hn hr hv
          have hP := Hush9.mk (And.intro hp1 hp2)
          clear hp1 hp2 hcn1 hcn2 hck1 hck2 hcs1 hcs2
          by_cases hjs : (j : Int) = sl
          · have djs : ((j : Int) == sl) = true := by rw [beq_iff_eq]; exact hjs
            clear hn hr hv
            replace hjs := Hush9.mk hjs
            go_wp2
            go_roundw
            case rel => exact ⟨j + 1, by omega, by go_num, sk9⟩
            case measure => simp [intOf]; omega
          have djs : ((j : Int) == sl) = false := by rw [beq_eq_false_iff_ne]; exact hjs
          have hQ := Hush9.mk (hn hjs)
          rw [hv hjs] at ks1
          by_cases k5 : kd = 5
          · have q5 : (kd == 5) = true := by rw [beq_iff_eq]; exact k5
            have b5 : (kd != 5) = false := by rw [bne, q5]; rfl
            clear hn hr hv hjs
            replace k5 := Hush9.mk k5
            go_wp2
            refine region_plus (by kernel_rfl) (by kernel_rfl) ?_
            (repeat (first | go_big_quiet_skip | (refine wpQuiet_load_guarded 56 (Operand.tmp 71) rfl gn1 (on1 + j * 33) rfl (fN (nth nh0 y3.nh j)) _ (fun w' hw jj v hj => cell_ex (ex_trans sk9 hw) (hP.it.1 jj v hj)) Tryz.underlying56 rfl (by kernel_rfl) (by kernel_rfl) ?_; simp only [Act.put, List.setIfInBounds_toArray, List.set_cons_succ, List.set_cons_zero]) | (refine wpQuiet_load_guarded 56 (Operand.tmp 76) rfl gn2 (on2 + j * 33) rfl (fN (nth nh0 zx0.nh j)) _ (fun w' hw jj v hj => cell_ex (ex_trans sk9 hw) (hP.it.2 jj v hj)) Tryz.underlying56 rfl (by kernel_rfl) (by kernel_rfl) ?_; simp only [Act.put, List.setIfInBounds_toArray, List.set_cons_succ, List.set_cons_zero]) | go_big_quiet_step (first | (go_at_call 24; exact q9_of (same_is (h := nth nh0 y3.nh j) (h2 := nth nh0 zx0.nh j) hQ.it (a1.ex sk9) (a2.ex sk9) s1 s2)) | (go_at_call 25; exact q9_of (kids_is hR.it (r1.ex sk9) (r2.ex sk9) (by omega))))))
            refine wpQuiet_nil ?_
            rintro _ ⟨x9, rfl⟩
            go_wp2
            go_roundw
            case rel => exact ⟨j + 1, by omega, by go_num, sk9⟩
            case measure => simp [intOf]; omega
          · have q5 : (kd == 5) = false := by rw [beq_eq_false_iff_ne]; exact k5
            have b5 : (kd != 5) = true := by rw [bne, q5]; rfl
            have hR := Hush9.mk (hr hjs (by rw [hkd.it]; exact k5))
            clear hn hr hv hjs
            replace k5 := Hush9.mk k5
            go_wp2
            refine region_plus (by kernel_rfl) (by kernel_rfl) ?_
            (repeat (first | go_big_quiet_skip | (refine wpQuiet_load_guarded 56 (Operand.tmp 71) rfl gn1 (on1 + j * 33) rfl (fN (nth nh0 y3.nh j)) _ (fun w' hw jj v hj => cell_ex (ex_trans sk9 hw) (hP.it.1 jj v hj)) Tryz.underlying56 rfl (by kernel_rfl) (by kernel_rfl) ?_; simp only [Act.put, List.setIfInBounds_toArray, List.set_cons_succ, List.set_cons_zero]) | (refine wpQuiet_load_guarded 56 (Operand.tmp 76) rfl gn2 (on2 + j * 33) rfl (fN (nth nh0 zx0.nh j)) _ (fun w' hw jj v hj => cell_ex (ex_trans sk9 hw) (hP.it.2 jj v hj)) Tryz.underlying56 rfl (by kernel_rfl) (by kernel_rfl) ?_; simp only [Act.put, List.setIfInBounds_toArray, List.set_cons_succ, List.set_cons_zero]) | go_big_quiet_step (first | (go_at_call 24; exact q9_of (same_is (h := nth nh0 y3.nh j) (h2 := nth nh0 zx0.nh j) hQ.it (a1.ex sk9) (a2.ex sk9) s1 s2)) | (go_at_call 25; exact q9_of (kids_is hR.it (r1.ex sk9) (r2.ex sk9) (by omega))))))
            refine wpQuiet_nil ?_
            rintro _ ⟨x9, rfl⟩
            go_wp2
            go_roundw
            case rel => exact ⟨j + 1, by omega, by go_num, sk9⟩
            case measure => simp [intOf]; omega
        · have ij : ¬ (j : Int) < (zh0.nn : Int) := by omega
          clear e0 e1 f0 f1
          obtain ⟨v4, hv4⟩ : ∃ v, plus v3 y = v := ⟨_, rfl⟩
          have x4 : ∃ y, v4 = plus v3 y := ⟨y, hv4.symm⟩
          rw [hv4]
          clear hv4
          have e2 := cell_ex x4 e2
          have k04 := blk_ex x4 k03
          have k14 := blk_ex x4 k13
          have p4 := blk_ex x4 p3
          have q4 := blk_ex x4 q3
          have hb4 := blk_lt k04
          have hb14 := blk_lt k14
          have hb34 := blk_lt p4
          have hq34 := blk_lt q4
          go_upto_region 19 with (first | (refine wpList_load_row rfl 34 (Operand.tmp 6) rfl b3 (by kernel_rfl) _ _ _ _ (by exact blk_ex (sk9) p4) Tryz.underlying34 rfl (by kernel_rfl) ?_) | (refine wpList_store_box rfl 34 (Operand.tmp 11) _ rfl v4.heap.size (scCells h3) (by simp [go_sem]) rfl 34 (scCells sh0).toArray (by exact blk_new2 _ _) (by kernel_rfl) (by kernel_rfl) (scCells_1 _) ?_))
          refine name_w (fun w' => (∃ y, w' = plus v4 y) ∧ w'.heap[v4.heap.size]? = some (.cells (scCells h3).toArray 34)) ⟨ex_row_new sk9 (Nat.le_refl _), blk_row_eq (blk_new2 _ _)⟩ ?_
          obtain ⟨ba, hba⟩ : ∃ v, v4.heap.size = v := ⟨_, rfl⟩
          try simp only [hba]
          rintro v5 ⟨x5, ka⟩
          have k05 := blk_ex x5 k04
          go_upto_region 20 with (first | (refine wpList_load_row rfl 34 (Operand.tmp 2) rfl b (by kernel_rfl) _ _ _ _ (by exact blk_ex (sk9) k05) Tryz.underlying34 rfl (by kernel_rfl) ?_) | (refine wpList_store_box rfl 34 (Operand.tmp 12) _ rfl v5.heap.size (scCells zh0) (by simp [go_sem]) rfl 34 (scCells sh0).toArray (by exact blk_new2 _ _) (by kernel_rfl) (by kernel_rfl) (scCells_1 _) ?_))
          refine name_w (fun w' => (∃ y, w' = plus v5 y) ∧ w'.heap[v5.heap.size]? = some (.cells (scCells zh0).toArray 34)) ⟨ex_row_new sk9 (Nat.le_refl _), blk_row_eq (blk_new2 _ _)⟩ ?_
          obtain ⟨bb, hbb⟩ : ∃ v, v5.heap.size = v := ⟨_, rfl⟩
          try simp only [hbb]
          rintro v6 ⟨x6, kb⟩
          have hab : ba < bb := by have := blk_lt ka; omega
          have ka6 := blk_ex x6 ka
          have aa0 := cell_of (i := 0) ka6 rfl
          have aa1 := cell_of (i := 1) ka6 rfl
          have aa2 := cell_of (i := 2) ka6 rfl
          have aa5 := cell_of (i := 5) ka6 rfl
          have aa6 := cell_of (i := 6) ka6 rfl
          have az0 := frozen_blk (i := 0) ka6
          have az1 := frozen_blk (i := 1) ka6
          have az2 := frozen_blk (i := 2) ka6
          have az5 := frozen_blk (i := 5) ka6
          have az6 := frozen_blk (i := 6) ka6
          have la6 := blk_lt ka6
          go_upto_region 21 with fail
          refine name_w (fun w' => (∃ y, w' = plus v4 y) ∧ w'.heap[ba]? = some (.cells (scCells (strip h3)).toArray 34) ∧ w'.heap[bb]? = some (.cells (scCells zh0).toArray 34)) ⟨ex_set_new (ex_set_new (ex_set_new (ex_set_new (ex_set_new (ex_trans x5 x6) (by omega)) (by omega)) (by omega)) (by omega)) (by omega), by have := blk_set (i := 6) (u := .int .i64 0) (blk_set (i := 5) (u := .int .i64 0) (blk_set (i := 2) (u := .slice none 0 0) (blk_set (i := 1) (u := .slice none 0 0) (blk_set (i := 0) (u := .slice none 0 0) (ka6))))); exact this, blk_set_far (blk_set_far (blk_set_far (blk_set_far (blk_set_far (kb) (by omega)) (by omega)) (by omega)) (by omega)) (by omega)⟩ ?_
          clear aa0 aa1 aa2 aa5 aa6 az0 az1 az2 az5 az6 la6 ka6
          rintro v7 ⟨x7, ka, kb⟩
          have aa0 := cell_of (i := 0) kb rfl
          have aa1 := cell_of (i := 1) kb rfl
          have aa2 := cell_of (i := 2) kb rfl
          have aa5 := cell_of (i := 5) kb rfl
          have aa6 := cell_of (i := 6) kb rfl
          have az0 := frozen_blk (i := 0) kb
          have az1 := frozen_blk (i := 1) kb
          have az2 := frozen_blk (i := 2) kb
          have az5 := frozen_blk (i := 5) kb
          have az6 := frozen_blk (i := 6) kb
          have la6 := blk_lt kb
          go_upto_region 22 with fail
          refine name_w (fun w' => (∃ y, w' = plus v4 y) ∧ w'.heap[ba]? = some (.cells (scCells (strip h3)).toArray 34) ∧ w'.heap[bb]? = some (.cells (scCells (strip zh0)).toArray 34)) ⟨ex_set_new (ex_set_new (ex_set_new (ex_set_new (ex_set_new (x7) (by omega)) (by omega)) (by omega)) (by omega)) (by omega), blk_set_far (blk_set_far (blk_set_far (blk_set_far (blk_set_far (ka) (by omega)) (by omega)) (by omega)) (by omega)) (by omega), by have := blk_set (i := 6) (u := .int .i64 0) (blk_set (i := 5) (u := .int .i64 0) (blk_set (i := 2) (u := .slice none 0 0) (blk_set (i := 1) (u := .slice none 0 0) (blk_set (i := 0) (u := .slice none 0 0) (kb))))); exact this⟩ ?_
          clear aa0 aa1 aa2 aa5 aa6 az0 az1 az2 az5 az6 la6
          rintro v8 ⟨x8, ka, kb⟩
          have x48 := ex_trans x4 x8
          have u0 := cell_ex x48 u0
          have u1 := cell_ex x48 u1
          have lz1 := blk_lt (blk_ex x8 k14)
          have A8 := A1.ex x48
          have Z8 := AZ.ex x48
          have G8 := ex_trans GA x48
          clear k04 p4 x5 x6 x7 k05 q4
          have n6 : ¬ kd = 6 := by have := q6.it; omega
          have n7 : ¬ kd = 7 := by have := q6.it; omega
          have b6 : (kd != 6) = true := by rw [bne, r6]; rfl
          have b7 : (kd != 7) = true := by rw [bne, r7]; rfl
          have hst := TO.it.st (by rw [hkd.it]; exact n6) (by rw [hkd.it]; exact n7)
          have SM : TwoV 20 v8 (scCells (strip h3)) (scCells (strip zh0)) (.bool true) := ⟨fun w' hw => lsame10_is (strip_at (A8.ex hw)) (strip_at (Z8.ex hw)) (by rw [show stripS S = stripS zs0 by rw [stripS, stripS, hst.1, hst.2]]; exact sameSc_refl _)⟩
          clear hst
          go_wp2_with (first | (refine wpList_load_row rfl 34 (Operand.tmp 11) rfl ba (by kernel_rfl) _ _ _ _ (by exact blk_ex (sk9) ka) Tryz.underlying34 rfl (by kernel_rfl) ?_) | (refine wpList_load_row rfl 34 (Operand.tmp 12) rfl bb (by kernel_rfl) _ _ _ _ (by exact blk_ex (sk9) kb) Tryz.underlying34 rfl (by kernel_rfl) ?_) | (go_at_call 20; refine (SM.it _ sk9).mono ?_; rintro e w' ⟨rfl, nx7, rfl⟩))
          go_ret
          exact ⟨rfl, by first | exact below_ex (ex_trans G8 sk9) | (rw [← hb]; exact below_ex (ex_trans G8 sk9))⟩
  rw [if_pos q6] at hsl'
  replace q6 := Hush9.mk q6
  rcases q6.it with k6 | k7 | k8
  · have r6 : (kd == 6) = true := by rw [beq_iff_eq]; exact k6
    have r7 : (kd == 7) = false := by rw [beq_eq_false_iff_ne]; omega
    have b6 : (kd != 6) = false := by rw [bne, r6]; rfl
    have b7 : (kd != 7) = true := by rw [bne, r7]; rfl
    have q67 := Hush9.mk k6
    clear q6 q1 k6
    go_upto_region 12 with fail
    rw [hsl']
    as_aux_lemma =>
      go_wp2
      go_loopw [10] (fun i wr => ∃ j : Nat, j ≤ zh0.nn ∧ i = .int .i64 j ∧ ∃ y, wr = plus v3 y) (fun i _ => zh0.nn - (intOf i).toNat)
      case atStart => exact ⟨0, Nat.zero_le _, rfl, sk9⟩
      case round =>
        obtain ⟨j, hj, rfl, y, rfl⟩ := hrel
        by_cases hjl : j < zh0.nn
        · have ij : (j : Int) < (zh0.nn : Int) := by omega
          have T1 := TO.it.nl
          have T2 := TO.it.kl
          have T3 := TO.it.sl
          have i2 : (j : Int) < (h3.nn : Int) := by omega
          have i3 : (j : Int) < (h3.kn : Int) := by omega
          have i4 : (j : Int) < (h3.gn : Int) := by omega
          obtain ⟨gn1, on1, hna1, hgn1, hcn1⟩ := A1.r.nl.some (by omega)
          obtain ⟨gn2, on2, hna2, hgn2, hcn2⟩ := AZ.r.nl.some (by omega)
          obtain ⟨gk1, ok1, hka1, hgk1, hck1⟩ := A1.g.kh.some (by omega)
          obtain ⟨gk2, ok2, hka2, hgk2, hck2⟩ := AZ.g.kh.some (by omega)
          obtain ⟨gs1, os1, hsa1, hgs1, hcs1⟩ := A1.g.sl.some (by omega)
          obtain ⟨gs2, os2, hsa2, hgs2, hcs2⟩ := AZ.g.sl.some (by omega)
          rw [hna1] at f2'
          rw [hna2] at e2
          rw [hka1] at f1
          rw [hka2] at e1
          rw [hsa1] at f0
          rw [hsa2] at e0
          have hp1 := lay_part (d := nh0) n3.2 fN_c hcn1 (k := j) (by omega)
          have hp2 := lay_part (d := nh0) nz.2 fN_c hcn2 (k := j) (by omega)
          have kr1 := cellR A1.g.kh.len hck1 (k := j) (by omega)
          have kr2 := cellR AZ.g.kh.len hck2 (k := j) (by omega)
          have ks1 := cellS g3s hcs1 (k := j) (by omega)
          have ks2 := cellS gzs hcs2 (k := j) (by omega)
          have a1 := A1.r.ns.one j (by omega)
          have a2 := AZ.r.ns.one j (by omega)
          have s1 := sm3.n j (by omega)
          have s2 := smz.n j (by omega)
          have r1 := A1.g.row j (by rw [A1.g.kh.len]; omega)
          have r2 := AZ.g.row j (by rw [AZ.g.kh.len]; omega)
          have rn1 := A1.g.n3 j (by rw [A1.g.kh.len]; omega)
          have hn := TO.it.n j (by omega)
          have hr := TO.it.k j (by omega)
          have hv := TO.it.v j (by omega)
          rw [hsl.it] at hn hr hv
          have hP := Hush9.mk (And.intro hp1 hp2)
          clear hp1 hp2 hcn1 hcn2 hck1 hck2 hcs1 hcs2
          by_cases hjs : (j : Int) = sl
          · have djs : ((j : Int) == sl) = true := by rw [beq_iff_eq]; exact hjs
            clear hn hr hv
            replace hjs := Hush9.mk hjs
            go_wp2
            go_roundw
            case rel => exact ⟨j + 1, by omega, by go_num, sk9⟩
            case measure => simp [intOf]; omega
          have djs : ((j : Int) == sl) = false := by rw [beq_eq_false_iff_ne]; exact hjs
          have hQ := Hush9.mk (hn hjs)
          rw [hv hjs] at ks1
          by_cases k5 : kd = 5
          · have q5 : (kd == 5) = true := by rw [beq_iff_eq]; exact k5
            have b5 : (kd != 5) = false := by rw [bne, q5]; rfl
            clear hn hr hv hjs
            replace k5 := Hush9.mk k5
            go_wp2
            refine region_plus (by kernel_rfl) (by kernel_rfl) ?_
            (repeat (first | go_big_quiet_skip | (refine wpQuiet_load_guarded 56 (Operand.tmp 71) rfl gn1 (on1 + j * 33) rfl (fN (nth nh0 y3.nh j)) _ (fun w' hw jj v hj => cell_ex (ex_trans sk9 hw) (hP.it.1 jj v hj)) Tryz.underlying56 rfl (by kernel_rfl) (by kernel_rfl) ?_; simp only [Act.put, List.setIfInBounds_toArray, List.set_cons_succ, List.set_cons_zero]) | (refine wpQuiet_load_guarded 56 (Operand.tmp 76) rfl gn2 (on2 + j * 33) rfl (fN (nth nh0 zx0.nh j)) _ (fun w' hw jj v hj => cell_ex (ex_trans sk9 hw) (hP.it.2 jj v hj)) Tryz.underlying56 rfl (by kernel_rfl) (by kernel_rfl) ?_; simp only [Act.put, List.setIfInBounds_toArray, List.set_cons_succ, List.set_cons_zero]) | go_big_quiet_step (first | (go_at_call 24; exact q9_of (same_is (h := nth nh0 y3.nh j) (h2 := nth nh0 zx0.nh j) hQ.it (a1.ex sk9) (a2.ex sk9) s1 s2)) | (go_at_call 25; exact q9_of (kids_is hR.it (r1.ex sk9) (r2.ex sk9) (by omega))))))
            refine wpQuiet_nil ?_
            rintro _ ⟨x9, rfl⟩
            go_wp2
            go_roundw
            case rel => exact ⟨j + 1, by omega, by go_num, sk9⟩
            case measure => simp [intOf]; omega
          · have q5 : (kd == 5) = false := by rw [beq_eq_false_iff_ne]; exact k5
            have b5 : (kd != 5) = true := by rw [bne, q5]; rfl
            have hR := Hush9.mk (hr hjs (by rw [hkd.it]; exact k5))
            clear hn hr hv hjs
            replace k5 := Hush9.mk k5
            go_wp2
            refine region_plus (by kernel_rfl) (by kernel_rfl) ?_
            (repeat (first | go_big_quiet_skip | (refine wpQuiet_load_guarded 56 (Operand.tmp 71) rfl gn1 (on1 + j * 33) rfl (fN (nth nh0 y3.nh j)) _ (fun w' hw jj v hj => cell_ex (ex_trans sk9 hw) (hP.it.1 jj v hj)) Tryz.underlying56 rfl (by kernel_rfl) (by kernel_rfl) ?_; simp only [Act.put, List.setIfInBounds_toArray, List.set_cons_succ, List.set_cons_zero]) | (refine wpQuiet_load_guarded 56 (Operand.tmp 76) rfl gn2 (on2 + j * 33) rfl (fN (nth nh0 zx0.nh j)) _ (fun w' hw jj v hj => cell_ex (ex_trans sk9 hw) (hP.it.2 jj v hj)) Tryz.underlying56 rfl (by kernel_rfl) (by kernel_rfl) ?_; simp only [Act.put, List.setIfInBounds_toArray, List.set_cons_succ, List.set_cons_zero]) | go_big_quiet_step (first | (go_at_call 24; exact q9_of (same_is (h := nth nh0 y3.nh j) (h2 := nth nh0 zx0.nh j) hQ.it (a1.ex sk9) (a2.ex sk9) s1 s2)) | (go_at_call 25; exact q9_of (kids_is hR.it (r1.ex sk9) (r2.ex sk9) (by omega))))))
            refine wpQuiet_nil ?_
            rintro _ ⟨x9, rfl⟩
            go_wp2
            go_roundw
            case rel => exact ⟨j + 1, by omega, by go_num, sk9⟩
            case measure => simp [intOf]; omega
        · have ij : ¬ (j : Int) < (zh0.nn : Int) := by omega
          clear e0 e1 f0 f1
          obtain ⟨v4, hv4⟩ : ∃ v, plus v3 y = v := ⟨_, rfl⟩
          have x4 : ∃ y, v4 = plus v3 y := ⟨y, hv4.symm⟩
          rw [hv4]
          clear hv4
          have e2 := cell_ex x4 e2
          have k04 := blk_ex x4 k03
          have k14 := blk_ex x4 k13
          have p4 := blk_ex x4 p3
          have q4 := blk_ex x4 q3
          have hb4 := blk_lt k04
          have hb14 := blk_lt k14
          have hb34 := blk_lt p4
          have hq34 := blk_lt q4
          go_upto_region 19 with (first | (refine wpList_load_row rfl 34 (Operand.tmp 6) rfl b3 (by kernel_rfl) _ _ _ _ (by exact blk_ex (sk9) p4) Tryz.underlying34 rfl (by kernel_rfl) ?_) | (refine wpList_store_box rfl 34 (Operand.tmp 11) _ rfl v4.heap.size (scCells h3) (by simp [go_sem]) rfl 34 (scCells sh0).toArray (by exact blk_new2 _ _) (by kernel_rfl) (by kernel_rfl) (scCells_1 _) ?_))
          refine name_w (fun w' => (∃ y, w' = plus v4 y) ∧ w'.heap[v4.heap.size]? = some (.cells (scCells h3).toArray 34)) ⟨ex_row_new sk9 (Nat.le_refl _), blk_row_eq (blk_new2 _ _)⟩ ?_
          obtain ⟨ba, hba⟩ : ∃ v, v4.heap.size = v := ⟨_, rfl⟩
          try simp only [hba]
          rintro v5 ⟨x5, ka⟩
          have k05 := blk_ex x5 k04
          go_upto_region 20 with (first | (refine wpList_load_row rfl 34 (Operand.tmp 2) rfl b (by kernel_rfl) _ _ _ _ (by exact blk_ex (sk9) k05) Tryz.underlying34 rfl (by kernel_rfl) ?_) | (refine wpList_store_box rfl 34 (Operand.tmp 12) _ rfl v5.heap.size (scCells zh0) (by simp [go_sem]) rfl 34 (scCells sh0).toArray (by exact blk_new2 _ _) (by kernel_rfl) (by kernel_rfl) (scCells_1 _) ?_))
          refine name_w (fun w' => (∃ y, w' = plus v5 y) ∧ w'.heap[v5.heap.size]? = some (.cells (scCells zh0).toArray 34)) ⟨ex_row_new sk9 (Nat.le_refl _), blk_row_eq (blk_new2 _ _)⟩ ?_
          obtain ⟨bb, hbb⟩ : ∃ v, v5.heap.size = v := ⟨_, rfl⟩
          try simp only [hbb]
          rintro v6 ⟨x6, kb⟩
          have hab : ba < bb := by have := blk_lt ka; omega
          have ka6 := blk_ex x6 ka
          have aa0 := cell_of (i := 0) ka6 rfl
          have aa1 := cell_of (i := 1) ka6 rfl
          have aa2 := cell_of (i := 2) ka6 rfl
          have aa5 := cell_of (i := 5) ka6 rfl
          have aa6 := cell_of (i := 6) ka6 rfl
          have az0 := frozen_blk (i := 0) ka6
          have az1 := frozen_blk (i := 1) ka6
          have az2 := frozen_blk (i := 2) ka6
          have az5 := frozen_blk (i := 5) ka6
          have az6 := frozen_blk (i := 6) ka6
          have la6 := blk_lt ka6
          go_upto_region 21 with fail
          refine name_w (fun w' => (∃ y, w' = plus v4 y) ∧ w'.heap[ba]? = some (.cells (scCells (strip h3)).toArray 34) ∧ w'.heap[bb]? = some (.cells (scCells zh0).toArray 34)) ⟨ex_set_new (ex_set_new (ex_set_new (ex_set_new (ex_set_new (ex_trans x5 x6) (by omega)) (by omega)) (by omega)) (by omega)) (by omega), by have := blk_set (i := 6) (u := .int .i64 0) (blk_set (i := 5) (u := .int .i64 0) (blk_set (i := 2) (u := .slice none 0 0) (blk_set (i := 1) (u := .slice none 0 0) (blk_set (i := 0) (u := .slice none 0 0) (ka6))))); exact this, blk_set_far (blk_set_far (blk_set_far (blk_set_far (blk_set_far (kb) (by omega)) (by omega)) (by omega)) (by omega)) (by omega)⟩ ?_
          clear aa0 aa1 aa2 aa5 aa6 az0 az1 az2 az5 az6 la6 ka6
          rintro v7 ⟨x7, ka, kb⟩
          have aa0 := cell_of (i := 0) kb rfl
          have aa1 := cell_of (i := 1) kb rfl
          have aa2 := cell_of (i := 2) kb rfl
          have aa5 := cell_of (i := 5) kb rfl
          have aa6 := cell_of (i := 6) kb rfl
          have az0 := frozen_blk (i := 0) kb
          have az1 := frozen_blk (i := 1) kb
          have az2 := frozen_blk (i := 2) kb
          have az5 := frozen_blk (i := 5) kb
          have az6 := frozen_blk (i := 6) kb
          have la6 := blk_lt kb
          go_upto_region 22 with fail
          refine name_w (fun w' => (∃ y, w' = plus v4 y) ∧ w'.heap[ba]? = some (.cells (scCells (strip h3)).toArray 34) ∧ w'.heap[bb]? = some (.cells (scCells (strip zh0)).toArray 34)) ⟨ex_set_new (ex_set_new (ex_set_new (ex_set_new (ex_set_new (x7) (by omega)) (by omega)) (by omega)) (by omega)) (by omega), blk_set_far (blk_set_far (blk_set_far (blk_set_far (blk_set_far (ka) (by omega)) (by omega)) (by omega)) (by omega)) (by omega), by have := blk_set (i := 6) (u := .int .i64 0) (blk_set (i := 5) (u := .int .i64 0) (blk_set (i := 2) (u := .slice none 0 0) (blk_set (i := 1) (u := .slice none 0 0) (blk_set (i := 0) (u := .slice none 0 0) (kb))))); exact this⟩ ?_
          clear aa0 aa1 aa2 aa5 aa6 az0 az1 az2 az5 az6 la6
          rintro v8 ⟨x8, ka, kb⟩
          have x48 := ex_trans x4 x8
          have u0 := cell_ex x48 u0
          have u1 := cell_ex x48 u1
          have lz1 := blk_lt (blk_ex x8 k14)
          have A8 := A1.ex x48
          have Z8 := AZ.ex x48
          have G8 := ex_trans GA x48
          have k04' := k04
          have p4' := p4
          have q4' := q4
          clear k04 p4 x5 x6 x7 k05 q4
          have hrn := TO.it.rn (by rw [hkd.it]; first | exact .inl q67.it | exact .inr q67.it)
          have hr3 := hro3.it
          rw [hrn.1, hroot0.it] at hr3
          simp only [Prod.mk.injEq] at hr3
          have k08 := blk_ex x8 k04'
          have p8 := blk_ex x8 p4'
          have q8 := blk_ex x8 q4'
          have e5 : v8.cell? ⟨b, 5, none⟩ = some (.int .i64 zh0.r0) := cell_of k08 rfl
          have e6 : v8.cell? ⟨b, 6, none⟩ = some (.int .i64 zh0.r1) := cell_of k08 rfl
          have f5 : v8.cell? ⟨b3, 5, none⟩ = some (.int .i64 h3.r0) := cell_of p8 rfl
          have f6 : v8.cell? ⟨b3, 6, none⟩ = some (.int .i64 h3.r1) := cell_of p8 rfl
          rw [hr3.1] at e5
          rw [hr3.2] at e6
          have hlen3 : h3.nn = zh0.nn := by omega
          have e2 : v8.cell? ⟨b, 2, none⟩ = some (.slice zh0.na zh0.nn zh0.nc) := cell_of k08 rfl
          have f2' : v8.cell? ⟨b3, 2, none⟩ = some (.slice h3.na h3.nn h3.nc) := cell_of p8 rfl
          rw [hlen3] at f2'
          have em : v8.cell? ⟨b, 3, none⟩ = some (.slice zh0.ma zh0.mn zh0.mc) := cell_of k08 rfl
          have fm : v8.cell? ⟨b3, 3, none⟩ = some (.slice h3.ma h3.mn h3.mc) := cell_of p8 rfl
          have et : v8.cell? ⟨b, 4, none⟩ = some (.slice zh0.ta zh0.tn zh0.tc) := cell_of k08 rfl
          have ft : v8.cell? ⟨b3, 4, none⟩ = some (.slice h3.ta h3.tn h3.tc) := cell_of p8 rfl
          have c2 : v8.cell? ⟨b3 + 1, 2, none⟩ = some (.int .i64 C) := cell_blk q8 rfl
          have l0 := blk_lt k08
          have l3 := blk_lt p8
          have lq := blk_lt q8
          have qH := eqH_is (eqh_rfl h3.r0 h3.r1)
          have m8 := A8.mn
          have mz := Z8.mn
          have t8 := A8.tn
          have tz := Z8.tn
          have mf8 := A8.f.mn
          have mfz := Z8.f.mn
          have tf8 := A8.f.tn
          have tfz := Z8.f.tn
          have dnn : ((zh0.nn : Int) == (zh0.nn : Int)) = true := by rw [beq_iff_eq]
          clear hrn hr3 hlen3 ka kb
          go_upto_region 26 with fail
          go_wp2
          go_loopw [13] (fun i wr => ∃ j : Nat, j ≤ zh0.mn ∧ i = .int .i64 j ∧ ∃ y, wr = plus v8 y) (fun i _ => zh0.mn - (intOf i).toNat)
          case atStart => exact ⟨0, Nat.zero_le _, rfl, sk9⟩
          case round =>
            obtain ⟨j, hj, rfl, y, rfl⟩ := hrel
            by_cases hjl : j < zh0.mn
            · have ij : (j : Int) < (zh0.mn : Int) := by omega
              have TL := TO.it.ml
              obtain ⟨gm1, om1, hma1, hgm1, _⟩ := A8.r.ml.some (by omega)
              obtain ⟨gm2, om2, hma2, hgm2, _⟩ := Z8.r.ml.some (by omega)
              rw [hma1] at fm
              rw [hma2] at em
              have io : (j : Int) + 1 ≤ (zh0.mc : Int) := by omega
              have io3 : (j : Int) + 1 ≤ (h3.mc : Int) := by omega
              by_cases hjc : (j : Int) = C
              · have djc : ((j : Int) == C) = true := by rw [beq_iff_eq]; exact hjc
                have bjc : ((j : Int) != C) = false := by rw [bne, djc]; rfl
                replace hjc := Hush9.mk hjc
                go_wp2
                refine region_plus (by kernel_rfl) (by kernel_rfl) ?_
                (repeat (first | go_big_quiet_skip | go_big_quiet_step ((go_at_call 20; exact q9_of (SM.it _ sk9)))))
                refine wpQuiet_nil ?_
                rintro _ ⟨x9, rfl⟩
                go_wp2
                go_roundw
                case rel => exact ⟨j + 1, by omega, by go_num, sk9⟩
                case measure => simp [intOf]; omega
              · have djc : ((j : Int) == C) = false := by rw [beq_eq_false_iff_ne]; exact hjc
                have bjc : ((j : Int) != C) = true := by rw [bne, djc]; rfl
                have hth := TO.it.m j (by omega) (.inr (fun e0 => hjc (by rw [hC6.it q67.it]; exact e0)))
                have SM : TwoV 20 v8 (scCells (mH (some ⟨gm2, om2 + j * 3, none⟩) 1 (zh0.mc - j))) (scCells (mH (some ⟨gm1, om1 + j * 3, none⟩) 1 (h3.mc - j))) (.bool true) := ⟨fun w' hw => lsame10_is ((mesh_one Z8 (c := zh0.mc - j) hjl hma2).ex hw) ((mesh_one A8 (c := h3.mc - j) (i := j) (by omega) hma1).ex hw) (by rw [hth]; exact sameSc_refl _)⟩
                clear hth hjc
                go_wp2
                refine region_plus (by kernel_rfl) (by kernel_rfl) ?_
                (repeat (first | go_big_quiet_skip | go_big_quiet_step ((go_at_call 20; exact q9_of (SM.it _ sk9)))))
                refine wpQuiet_nil ?_
                rintro _ ⟨x9, rfl⟩
                go_wp2
                go_roundw
                case rel => exact ⟨j + 1, by omega, by go_num, sk9⟩
                case measure => simp [intOf]; omega
            · have ij : ¬ (j : Int) < (zh0.mn : Int) := by omega
              go_wp2
              go_loopw [14] (fun i wr => ∃ j : Nat, j ≤ zh0.tn ∧ i = .int .i64 j ∧ ∃ y, wr = plus v8 y) (fun i _ => zh0.tn - (intOf i).toNat)
              case atStart => exact ⟨0, Nat.zero_le _, rfl, sk9⟩
              case round =>
                obtain ⟨j, hj, rfl, y, rfl⟩ := hrel
                by_cases hjl : j < zh0.tn
                · have ij : (j : Int) < (zh0.tn : Int) := by omega
                  have TL := TO.it.tl
                  obtain ⟨gm1, om1, hma1, hgm1, _⟩ := A8.r.tl.some (by omega)
                  obtain ⟨gm2, om2, hma2, hgm2, _⟩ := Z8.r.tl.some (by omega)
                  rw [hma1] at ft
                  rw [hma2] at et
                  have io : (j : Int) + 1 ≤ (zh0.tc : Int) := by omega
                  have io3 : (j : Int) + 1 ≤ (h3.tc : Int) := by omega
                  have nK : ¬ kd = 7 := by have := q67.it; omega
                  have hth := TO.it.t j (by omega) (.inl (by rw [hkd.it]; exact nK))
                  have SM : TwoV 20 v8 (scCells (tH (some ⟨gm2, om2 + j * 3, none⟩) 1 (zh0.tc - j))) (scCells (tH (some ⟨gm1, om1 + j * 3, none⟩) 1 (h3.tc - j))) (.bool true) := ⟨fun w' hw => lsame10_is ((tex_one Z8 (c := zh0.tc - j) hjl hma2).ex hw) ((tex_one A8 (c := h3.tc - j) (i := j) (by omega) hma1).ex hw) (by rw [hth]; exact sameSc_refl _)⟩
                  clear hth nK
                  go_wp2
                  refine region_plus (by kernel_rfl) (by kernel_rfl) ?_
                  (repeat (first | go_big_quiet_skip | go_big_quiet_step ((go_at_call 20; exact q9_of (SM.it _ sk9)))))
                  refine wpQuiet_nil ?_
                  rintro _ ⟨x9, rfl⟩
                  go_wp2
                  go_roundw
                  case rel => exact ⟨j + 1, by omega, by go_num, sk9⟩
                  case measure => simp [intOf]; omega
                · have ij : ¬ (j : Int) < (zh0.tn : Int) := by omega
                  go_wp2
                  go_ret
                  exact ⟨rfl, by first | exact below_ex (ex_trans G8 sk9) | (rw [← hb]; exact below_ex (ex_trans G8 sk9))⟩
  · have r6 : (kd == 6) = false := by rw [beq_eq_false_iff_ne]; omega
    have r7 : (kd == 7) = true := by rw [beq_iff_eq]; exact k7
    have b6 : (kd != 6) = true := by rw [bne, r6]; rfl
    have b7 : (kd != 7) = false := by rw [bne, r7]; rfl
    have q67 := Hush9.mk k7
    clear q6 q1 k7
    go_upto_region 12 with fail
    rw [hsl']
    as_aux_lemma =>
      go_wp2
      go_loopw [10] (fun i wr => ∃ j : Nat, j ≤ zh0.nn ∧ i = .int .i64 j ∧ ∃ y, wr = plus v3 y) (fun i _ => zh0.nn - (intOf i).toNat)
      case atStart => exact ⟨0, Nat.zero_le _, rfl, sk9⟩
      case round =>
        obtain ⟨j, hj, rfl, y, rfl⟩ := hrel
        by_cases hjl : j < zh0.nn
        · have ij : (j : Int) < (zh0.nn : Int) := by omega
          have T1 := TO.it.nl
          have T2 := TO.it.kl
          have T3 := TO.it.sl
          have i2 : (j : Int) < (h3.nn : Int) := by omega
          have i3 : (j : Int) < (h3.kn : Int) := by omega
          have i4 : (j : Int) < (h3.gn : Int) := by omega
          obtain ⟨gn1, on1, hna1, hgn1, hcn1⟩ := A1.r.nl.some (by omega)
          obtain ⟨gn2, on2, hna2, hgn2, hcn2⟩ := AZ.r.nl.some (by omega)
          obtain ⟨gk1, ok1, hka1, hgk1, hck1⟩ := A1.g.kh.some (by omega)
          obtain ⟨gk2, ok2, hka2, hgk2, hck2⟩ := AZ.g.kh.some (by omega)
          obtain ⟨gs1, os1, hsa1, hgs1, hcs1⟩ := A1.g.sl.some (by omega)
          obtain ⟨gs2, os2, hsa2, hgs2, hcs2⟩ := AZ.g.sl.some (by omega)
          rw [hna1] at f2'
          rw [hna2] at e2
          rw [hka1] at f1
          rw [hka2] at e1
          rw [hsa1] at f0
          rw [hsa2] at e0
          have hp1 := lay_part (d := nh0) n3.2 fN_c hcn1 (k := j) (by omega)
          have hp2 := lay_part (d := nh0) nz.2 fN_c hcn2 (k := j) (by omega)
          have kr1 := cellR A1.g.kh.len hck1 (k := j) (by omega)
          have kr2 := cellR AZ.g.kh.len hck2 (k := j) (by omega)
          have ks1 := cellS g3s hcs1 (k := j) (by omega)
          have ks2 := cellS gzs hcs2 (k := j) (by omega)
          have a1 := A1.r.ns.one j (by omega)
          have a2 := AZ.r.ns.one j (by omega)
          have s1 := sm3.n j (by omega)
          have s2 := smz.n j (by omega)
          have r1 := A1.g.row j (by rw [A1.g.kh.len]; omega)
          have r2 := AZ.g.row j (by rw [AZ.g.kh.len]; omega)
          have rn1 := A1.g.n3 j (by rw [A1.g.kh.len]; omega)
          have hn := TO.it.n j (by omega)
          have hr := TO.it.k j (by omega)
          have hv := TO.it.v j (by omega)
          rw [hsl.it] at hn hr hv
          have hP := Hush9.mk (And.intro hp1 hp2)
          clear hp1 hp2 hcn1 hcn2 hck1 hck2 hcs1 hcs2
          by_cases hjs : (j : Int) = sl
          · have djs : ((j : Int) == sl) = true := by rw [beq_iff_eq]; exact hjs
            clear hn hr hv
            replace hjs := Hush9.mk hjs
            go_wp2
            go_roundw
            case rel => exact ⟨j + 1, by omega, by go_num, sk9⟩
            case measure => simp [intOf]; omega
          have djs : ((j : Int) == sl) = false := by rw [beq_eq_false_iff_ne]; exact hjs
          have hQ := Hush9.mk (hn hjs)
          rw [hv hjs] at ks1
          by_cases k5 : kd = 5
          · have q5 : (kd == 5) = true := by rw [beq_iff_eq]; exact k5
            have b5 : (kd != 5) = false := by rw [bne, q5]; rfl
            clear hn hr hv hjs
            replace k5 := Hush9.mk k5
            go_wp2
            refine region_plus (by kernel_rfl) (by kernel_rfl) ?_
            (repeat (first | go_big_quiet_skip | (refine wpQuiet_load_guarded 56 (Operand.tmp 71) rfl gn1 (on1 + j * 33) rfl (fN (nth nh0 y3.nh j)) _ (fun w' hw jj v hj => cell_ex (ex_trans sk9 hw) (hP.it.1 jj v hj)) Tryz.underlying56 rfl (by kernel_rfl) (by kernel_rfl) ?_; simp only [Act.put, List.setIfInBounds_toArray, List.set_cons_succ, List.set_cons_zero]) | (refine wpQuiet_load_guarded 56 (Operand.tmp 76) rfl gn2 (on2 + j * 33) rfl (fN (nth nh0 zx0.nh j)) _ (fun w' hw jj v hj => cell_ex (ex_trans sk9 hw) (hP.it.2 jj v hj)) Tryz.underlying56 rfl (by kernel_rfl) (by kernel_rfl) ?_; simp only [Act.put, List.setIfInBounds_toArray, List.set_cons_succ, List.set_cons_zero]) | go_big_quiet_step (first | (go_at_call 24; exact q9_of (same_is (h := nth nh0 y3.nh j) (h2 := nth nh0 zx0.nh j) hQ.it (a1.ex sk9) (a2.ex sk9) s1 s2)) | (go_at_call 25; exact q9_of (kids_is hR.it (r1.ex sk9) (r2.ex sk9) (by omega))))))
            refine wpQuiet_nil ?_
            rintro _ ⟨x9, rfl⟩
            go_wp2
            go_roundw
            case rel => exact ⟨j + 1, by omega, by go_num, sk9⟩
            case measure => simp [intOf]; omega
          · have q5 : (kd == 5) = false := by rw [beq_eq_false_iff_ne]; exact k5
            have b5 : (kd != 5) = true := by rw [bne, q5]; rfl
            have hR := Hush9.mk (hr hjs (by rw [hkd.it]; exact k5))
            clear hn hr hv hjs
            replace k5 := Hush9.mk k5
            go_wp2
            refine region_plus (by kernel_rfl) (by kernel_rfl) ?_
            (repeat (first | go_big_quiet_skip | (refine wpQuiet_load_guarded 56 (Operand.tmp 71) rfl gn1 (on1 + j * 33) rfl (fN (nth nh0 y3.nh j)) _ (fun w' hw jj v hj => cell_ex (ex_trans sk9 hw) (hP.it.1 jj v hj)) Tryz.underlying56 rfl (by kernel_rfl) (by kernel_rfl) ?_; simp only [Act.put, List.setIfInBounds_toArray, List.set_cons_succ, List.set_cons_zero]) | (refine wpQuiet_load_guarded 56 (Operand.tmp 76) rfl gn2 (on2 + j * 33) rfl (fN (nth nh0 zx0.nh j)) _ (fun w' hw jj v hj => cell_ex (ex_trans sk9 hw) (hP.it.2 jj v hj)) Tryz.underlying56 rfl (by kernel_rfl) (by kernel_rfl) ?_; simp only [Act.put, List.setIfInBounds_toArray, List.set_cons_succ, List.set_cons_zero]) | go_big_quiet_step (first | (go_at_call 24; exact q9_of (same_is (h := nth nh0 y3.nh j) (h2 := nth nh0 zx0.nh j) hQ.it (a1.ex sk9) (a2.ex sk9) s1 s2)) | (go_at_call 25; exact q9_of (kids_is hR.it (r1.ex sk9) (r2.ex sk9) (by omega))))))
            refine wpQuiet_nil ?_
            rintro _ ⟨x9, rfl⟩
            go_wp2
            go_roundw
            case rel => exact ⟨j + 1, by omega, by go_num, sk9⟩
            case measure => simp [intOf]; omega
        · have ij : ¬ (j : Int) < (zh0.nn : Int) := by omega
          clear e0 e1 f0 f1
          obtain ⟨v4, hv4⟩ : ∃ v, plus v3 y = v := ⟨_, rfl⟩
          have x4 : ∃ y, v4 = plus v3 y := ⟨y, hv4.symm⟩
          rw [hv4]
          clear hv4
          have e2 := cell_ex x4 e2
          have k04 := blk_ex x4 k03
          have k14 := blk_ex x4 k13
          have p4 := blk_ex x4 p3
          have q4 := blk_ex x4 q3
          have hb4 := blk_lt k04
          have hb14 := blk_lt k14
          have hb34 := blk_lt p4
          have hq34 := blk_lt q4
          go_upto_region 19 with (first | (refine wpList_load_row rfl 34 (Operand.tmp 6) rfl b3 (by kernel_rfl) _ _ _ _ (by exact blk_ex (sk9) p4) Tryz.underlying34 rfl (by kernel_rfl) ?_) | (refine wpList_store_box rfl 34 (Operand.tmp 11) _ rfl v4.heap.size (scCells h3) (by simp [go_sem]) rfl 34 (scCells sh0).toArray (by exact blk_new2 _ _) (by kernel_rfl) (by kernel_rfl) (scCells_1 _) ?_))
          refine name_w (fun w' => (∃ y, w' = plus v4 y) ∧ w'.heap[v4.heap.size]? = some (.cells (scCells h3).toArray 34)) ⟨ex_row_new sk9 (Nat.le_refl _), blk_row_eq (blk_new2 _ _)⟩ ?_
          obtain ⟨ba, hba⟩ : ∃ v, v4.heap.size = v := ⟨_, rfl⟩
          try simp only [hba]
          rintro v5 ⟨x5, ka⟩
          have k05 := blk_ex x5 k04
          go_upto_region 20 with (first | (refine wpList_load_row rfl 34 (Operand.tmp 2) rfl b (by kernel_rfl) _ _ _ _ (by exact blk_ex (sk9) k05) Tryz.underlying34 rfl (by kernel_rfl) ?_) | (refine wpList_store_box rfl 34 (Operand.tmp 12) _ rfl v5.heap.size (scCells zh0) (by simp [go_sem]) rfl 34 (scCells sh0).toArray (by exact blk_new2 _ _) (by kernel_rfl) (by kernel_rfl) (scCells_1 _) ?_))
          refine name_w (fun w' => (∃ y, w' = plus v5 y) ∧ w'.heap[v5.heap.size]? = some (.cells (scCells zh0).toArray 34)) ⟨ex_row_new sk9 (Nat.le_refl _), blk_row_eq (blk_new2 _ _)⟩ ?_
          obtain ⟨bb, hbb⟩ : ∃ v, v5.heap.size = v := ⟨_, rfl⟩
          try simp only [hbb]
          rintro v6 ⟨x6, kb⟩
          have hab : ba < bb := by have := blk_lt ka; omega
          have ka6 := blk_ex x6 ka
          have aa0 := cell_of (i := 0) ka6 rfl
          have aa1 := cell_of (i := 1) ka6 rfl
          have aa2 := cell_of (i := 2) ka6 rfl
          have aa5 := cell_of (i := 5) ka6 rfl
          have aa6 := cell_of (i := 6) ka6 rfl
          have az0 := frozen_blk (i := 0) ka6
          have az1 := frozen_blk (i := 1) ka6
          have az2 := frozen_blk (i := 2) ka6
          have az5 := frozen_blk (i := 5) ka6
          have az6 := frozen_blk (i := 6) ka6
          have la6 := blk_lt ka6
          go_upto_region 21 with fail
          refine name_w (fun w' => (∃ y, w' = plus v4 y) ∧ w'.heap[ba]? = some (.cells (scCells (strip h3)).toArray 34) ∧ w'.heap[bb]? = some (.cells (scCells zh0).toArray 34)) ⟨ex_set_new (ex_set_new (ex_set_new (ex_set_new (ex_set_new (ex_trans x5 x6) (by omega)) (by omega)) (by omega)) (by omega)) (by omega), by have := blk_set (i := 6) (u := .int .i64 0) (blk_set (i := 5) (u := .int .i64 0) (blk_set (i := 2) (u := .slice none 0 0) (blk_set (i := 1) (u := .slice none 0 0) (blk_set (i := 0) (u := .slice none 0 0) (ka6))))); exact this, blk_set_far (blk_set_far (blk_set_far (blk_set_far (blk_set_far (kb) (by omega)) (by omega)) (by omega)) (by omega)) (by omega)⟩ ?_
          clear aa0 aa1 aa2 aa5 aa6 az0 az1 az2 az5 az6 la6 ka6
          rintro v7 ⟨x7, ka, kb⟩
          have aa0 := cell_of (i := 0) kb rfl
          have aa1 := cell_of (i := 1) kb rfl
          have aa2 := cell_of (i := 2) kb rfl
          have aa5 := cell_of (i := 5) kb rfl
          have aa6 := cell_of (i := 6) kb rfl
          have az0 := frozen_blk (i := 0) kb
          have az1 := frozen_blk (i := 1) kb
          have az2 := frozen_blk (i := 2) kb
          have az5 := frozen_blk (i := 5) kb
          have az6 := frozen_blk (i := 6) kb
          have la6 := blk_lt kb
          go_upto_region 22 with fail
          refine name_w (fun w' => (∃ y, w' = plus v4 y) ∧ w'.heap[ba]? = some (.cells (scCells (strip h3)).toArray 34) ∧ w'.heap[bb]? = some (.cells (scCells (strip zh0)).toArray 34)) ⟨ex_set_new (ex_set_new (ex_set_new (ex_set_new (ex_set_new (x7) (by omega)) (by omega)) (by omega)) (by omega)) (by omega), blk_set_far (blk_set_far (blk_set_far (blk_set_far (blk_set_far (ka) (by omega)) (by omega)) (by omega)) (by omega)) (by omega), by have := blk_set (i := 6) (u := .int .i64 0) (blk_set (i := 5) (u := .int .i64 0) (blk_set (i := 2) (u := .slice none 0 0) (blk_set (i := 1) (u := .slice none 0 0) (blk_set (i := 0) (u := .slice none 0 0) (kb))))); exact this⟩ ?_
          clear aa0 aa1 aa2 aa5 aa6 az0 az1 az2 az5 az6 la6
          rintro v8 ⟨x8, ka, kb⟩
          have x48 := ex_trans x4 x8
          have u0 := cell_ex x48 u0
          have u1 := cell_ex x48 u1
          have lz1 := blk_lt (blk_ex x8 k14)
          have A8 := A1.ex x48
          have Z8 := AZ.ex x48
          have G8 := ex_trans GA x48
          have k04' := k04
          have p4' := p4
          have q4' := q4
          clear k04 p4 x5 x6 x7 k05 q4
          have hrn := TO.it.rn (by rw [hkd.it]; first | exact .inl q67.it | exact .inr q67.it)
          have hr3 := hro3.it
          rw [hrn.1, hroot0.it] at hr3
          simp only [Prod.mk.injEq] at hr3
          have k08 := blk_ex x8 k04'
          have p8 := blk_ex x8 p4'
          have q8 := blk_ex x8 q4'
          have e5 : v8.cell? ⟨b, 5, none⟩ = some (.int .i64 zh0.r0) := cell_of k08 rfl
          have e6 : v8.cell? ⟨b, 6, none⟩ = some (.int .i64 zh0.r1) := cell_of k08 rfl
          have f5 : v8.cell? ⟨b3, 5, none⟩ = some (.int .i64 h3.r0) := cell_of p8 rfl
          have f6 : v8.cell? ⟨b3, 6, none⟩ = some (.int .i64 h3.r1) := cell_of p8 rfl
          rw [hr3.1] at e5
          rw [hr3.2] at e6
          have hlen3 : h3.nn = zh0.nn := by omega
          have e2 : v8.cell? ⟨b, 2, none⟩ = some (.slice zh0.na zh0.nn zh0.nc) := cell_of k08 rfl
          have f2' : v8.cell? ⟨b3, 2, none⟩ = some (.slice h3.na h3.nn h3.nc) := cell_of p8 rfl
          rw [hlen3] at f2'
          have em : v8.cell? ⟨b, 3, none⟩ = some (.slice zh0.ma zh0.mn zh0.mc) := cell_of k08 rfl
          have fm : v8.cell? ⟨b3, 3, none⟩ = some (.slice h3.ma h3.mn h3.mc) := cell_of p8 rfl
          have et : v8.cell? ⟨b, 4, none⟩ = some (.slice zh0.ta zh0.tn zh0.tc) := cell_of k08 rfl
          have ft : v8.cell? ⟨b3, 4, none⟩ = some (.slice h3.ta h3.tn h3.tc) := cell_of p8 rfl
          have c2 : v8.cell? ⟨b3 + 1, 2, none⟩ = some (.int .i64 C) := cell_blk q8 rfl
          have l0 := blk_lt k08
          have l3 := blk_lt p8
          have lq := blk_lt q8
          have qH := eqH_is (eqh_rfl h3.r0 h3.r1)
          have m8 := A8.mn
          have mz := Z8.mn
          have t8 := A8.tn
          have tz := Z8.tn
          have mf8 := A8.f.mn
          have mfz := Z8.f.mn
          have tf8 := A8.f.tn
          have tfz := Z8.f.tn
          have dnn : ((zh0.nn : Int) == (zh0.nn : Int)) = true := by rw [beq_iff_eq]
          clear hrn hr3 hlen3 ka kb
          go_upto_region 26 with fail
          go_wp2
          go_loopw [13] (fun i wr => ∃ j : Nat, j ≤ zh0.mn ∧ i = .int .i64 j ∧ ∃ y, wr = plus v8 y) (fun i _ => zh0.mn - (intOf i).toNat)
          case atStart => exact ⟨0, Nat.zero_le _, rfl, sk9⟩
          case round =>
            obtain ⟨j, hj, rfl, y, rfl⟩ := hrel
            by_cases hjl : j < zh0.mn
            · have ij : (j : Int) < (zh0.mn : Int) := by omega
              have TL := TO.it.ml
              obtain ⟨gm1, om1, hma1, hgm1, _⟩ := A8.r.ml.some (by omega)
              obtain ⟨gm2, om2, hma2, hgm2, _⟩ := Z8.r.ml.some (by omega)
              rw [hma1] at fm
              rw [hma2] at em
              have io : (j : Int) + 1 ≤ (zh0.mc : Int) := by omega
              have io3 : (j : Int) + 1 ≤ (h3.mc : Int) := by omega
              have nK : ¬ kd = 6 := by have := q67.it; omega
              have hth := TO.it.m j (by omega) (.inl (by rw [hkd.it]; exact nK))
              have SM : TwoV 20 v8 (scCells (mH (some ⟨gm2, om2 + j * 3, none⟩) 1 (zh0.mc - j))) (scCells (mH (some ⟨gm1, om1 + j * 3, none⟩) 1 (h3.mc - j))) (.bool true) := ⟨fun w' hw => lsame10_is ((mesh_one Z8 (c := zh0.mc - j) hjl hma2).ex hw) ((mesh_one A8 (c := h3.mc - j) (i := j) (by omega) hma1).ex hw) (by rw [hth]; exact sameSc_refl _)⟩
              clear hth nK
              go_wp2
              refine region_plus (by kernel_rfl) (by kernel_rfl) ?_
              (repeat (first | go_big_quiet_skip | go_big_quiet_step ((go_at_call 20; exact q9_of (SM.it _ sk9)))))
              refine wpQuiet_nil ?_
              rintro _ ⟨x9, rfl⟩
              go_wp2
              go_roundw
              case rel => exact ⟨j + 1, by omega, by go_num, sk9⟩
              case measure => simp [intOf]; omega
            · have ij : ¬ (j : Int) < (zh0.mn : Int) := by omega
              go_wp2
              go_loopw [14] (fun i wr => ∃ j : Nat, j ≤ zh0.tn ∧ i = .int .i64 j ∧ ∃ y, wr = plus v8 y) (fun i _ => zh0.tn - (intOf i).toNat)
              case atStart => exact ⟨0, Nat.zero_le _, rfl, sk9⟩
              case round =>
                obtain ⟨j, hj, rfl, y, rfl⟩ := hrel
                by_cases hjl : j < zh0.tn
                · have ij : (j : Int) < (zh0.tn : Int) := by omega
                  have TL := TO.it.tl
                  obtain ⟨gm1, om1, hma1, hgm1, _⟩ := A8.r.tl.some (by omega)
                  obtain ⟨gm2, om2, hma2, hgm2, _⟩ := Z8.r.tl.some (by omega)
                  rw [hma1] at ft
                  rw [hma2] at et
                  have io : (j : Int) + 1 ≤ (zh0.tc : Int) := by omega
                  have io3 : (j : Int) + 1 ≤ (h3.tc : Int) := by omega
                  by_cases hjc : (j : Int) = C
                  · have djc : ((j : Int) == C) = true := by rw [beq_iff_eq]; exact hjc
                    have bjc : ((j : Int) != C) = false := by rw [bne, djc]; rfl
                    replace hjc := Hush9.mk hjc
                    go_wp2
                    refine region_plus (by kernel_rfl) (by kernel_rfl) ?_
                    (repeat (first | go_big_quiet_skip | go_big_quiet_step ((go_at_call 20; exact q9_of (SM.it _ sk9)))))
                    refine wpQuiet_nil ?_
                    rintro _ ⟨x9, rfl⟩
                    go_wp2
                    go_roundw
                    case rel => exact ⟨j + 1, by omega, by go_num, sk9⟩
                    case measure => simp [intOf]; omega
                  · have djc : ((j : Int) == C) = false := by rw [beq_eq_false_iff_ne]; exact hjc
                    have bjc : ((j : Int) != C) = true := by rw [bne, djc]; rfl
                    have hth := TO.it.t j (by omega) (.inr (fun e0 => hjc (by rw [hC7.it q67.it]; exact e0)))
                    have SM : TwoV 20 v8 (scCells (tH (some ⟨gm2, om2 + j * 3, none⟩) 1 (zh0.tc - j))) (scCells (tH (some ⟨gm1, om1 + j * 3, none⟩) 1 (h3.tc - j))) (.bool true) := ⟨fun w' hw => lsame10_is ((tex_one Z8 (c := zh0.tc - j) hjl hma2).ex hw) ((tex_one A8 (c := h3.tc - j) (i := j) (by omega) hma1).ex hw) (by rw [hth]; exact sameSc_refl _)⟩
                    clear hth hjc
                    go_wp2
                    refine region_plus (by kernel_rfl) (by kernel_rfl) ?_
                    (repeat (first | go_big_quiet_skip | go_big_quiet_step ((go_at_call 20; exact q9_of (SM.it _ sk9)))))
                    refine wpQuiet_nil ?_
                    rintro _ ⟨x9, rfl⟩
                    go_wp2
                    go_roundw
                    case rel => exact ⟨j + 1, by omega, by go_num, sk9⟩
                    case measure => simp [intOf]; omega
                · have ij : ¬ (j : Int) < (zh0.tn : Int) := by omega
                  go_wp2
                  go_ret
                  exact ⟨rfl, by first | exact below_ex (ex_trans G8 sk9) | (rw [← hb]; exact below_ex (ex_trans G8 sk9))⟩
  · have r6 : (kd == 6) = false := by rw [beq_eq_false_iff_ne]; omega
    have r7 : (kd == 7) = false := by rw [beq_eq_false_iff_ne]; omega
    have r8 : (kd == 8) = true := by rw [beq_iff_eq]; exact k8
    have q8 := Hush9.mk k8
    clear q6 q1 k8
    go_upto_region 12 with fail
    rw [hsl']
    as_aux_lemma =>
      go_wp2
      go_loopw [10] (fun i wr => ∃ j : Nat, j ≤ zh0.nn ∧ i = .int .i64 j ∧ ∃ y, wr = plus v3 y) (fun i _ => zh0.nn - (intOf i).toNat)
      case atStart => exact ⟨0, Nat.zero_le _, rfl, sk9⟩
      case round =>
        obtain ⟨j, hj, rfl, y, rfl⟩ := hrel
        by_cases hjl : j < zh0.nn
        · have ij : (j : Int) < (zh0.nn : Int) := by omega
          have T1 := TO.it.nl
          have T2 := TO.it.kl
          have T3 := TO.it.sl
          have i2 : (j : Int) < (h3.nn : Int) := by omega
          have i3 : (j : Int) < (h3.kn : Int) := by omega
          have i4 : (j : Int) < (h3.gn : Int) := by omega
          obtain ⟨gn1, on1, hna1, hgn1, hcn1⟩ := A1.r.nl.some (by omega)
          obtain ⟨gn2, on2, hna2, hgn2, hcn2⟩ := AZ.r.nl.some (by omega)
          obtain ⟨gk1, ok1, hka1, hgk1, hck1⟩ := A1.g.kh.some (by omega)
          obtain ⟨gk2, ok2, hka2, hgk2, hck2⟩ := AZ.g.kh.some (by omega)
          obtain ⟨gs1, os1, hsa1, hgs1, hcs1⟩ := A1.g.sl.some (by omega)
          obtain ⟨gs2, os2, hsa2, hgs2, hcs2⟩ := AZ.g.sl.some (by omega)
          rw [hna1] at f2'
          rw [hna2] at e2
          rw [hka1] at f1
          rw [hka2] at e1
          rw [hsa1] at f0
          rw [hsa2] at e0
          have hp1 := lay_part (d := nh0) n3.2 fN_c hcn1 (k := j) (by omega)
          have hp2 := lay_part (d := nh0) nz.2 fN_c hcn2 (k := j) (by omega)
          have kr1 := cellR A1.g.kh.len hck1 (k := j) (by omega)
          have kr2 := cellR AZ.g.kh.len hck2 (k := j) (by omega)
          have ks1 := cellS g3s hcs1 (k := j) (by omega)
          have ks2 := cellS gzs hcs2 (k := j) (by omega)
          have a1 := A1.r.ns.one j (by omega)
          have a2 := AZ.r.ns.one j (by omega)
          have s1 := sm3.n j (by omega)
          have s2 := smz.n j (by omega)
          have r1 := A1.g.row j (by rw [A1.g.kh.len]; omega)
          have r2 := AZ.g.row j (by rw [AZ.g.kh.len]; omega)
          have rn1 := A1.g.n3 j (by rw [A1.g.kh.len]; omega)
          have hn := TO.it.n j (by omega)
          have hr := TO.it.k j (by omega)
          have hv := TO.it.v j (by omega)
          rw [hsl.it] at hn hr hv
          have hP := Hush9.mk (And.intro hp1 hp2)
          clear hp1 hp2 hcn1 hcn2 hck1 hck2 hcs1 hcs2
          by_cases hjs : (j : Int) = sl
          · have djs : ((j : Int) == sl) = true := by rw [beq_iff_eq]; exact hjs
            clear hn hr hv
            replace hjs := Hush9.mk hjs
            go_wp2
            go_roundw
            case rel => exact ⟨j + 1, by omega, by go_num, sk9⟩
            case measure => simp [intOf]; omega
          have djs : ((j : Int) == sl) = false := by rw [beq_eq_false_iff_ne]; exact hjs
          have hQ := Hush9.mk (hn hjs)
          rw [hv hjs] at ks1
          by_cases k5 : kd = 5
          · have q5 : (kd == 5) = true := by rw [beq_iff_eq]; exact k5
            have b5 : (kd != 5) = false := by rw [bne, q5]; rfl
            clear hn hr hv hjs
            replace k5 := Hush9.mk k5
            go_wp2
            refine region_plus (by kernel_rfl) (by kernel_rfl) ?_
            (repeat (first | go_big_quiet_skip | (refine wpQuiet_load_guarded 56 (Operand.tmp 71) rfl gn1 (on1 + j * 33) rfl (fN (nth nh0 y3.nh j)) _ (fun w' hw jj v hj => cell_ex (ex_trans sk9 hw) (hP.it.1 jj v hj)) Tryz.underlying56 rfl (by kernel_rfl) (by kernel_rfl) ?_; simp only [Act.put, List.setIfInBounds_toArray, List.set_cons_succ, List.set_cons_zero]) | (refine wpQuiet_load_guarded 56 (Operand.tmp 76) rfl gn2 (on2 + j * 33) rfl (fN (nth nh0 zx0.nh j)) _ (fun w' hw jj v hj => cell_ex (ex_trans sk9 hw) (hP.it.2 jj v hj)) Tryz.underlying56 rfl (by kernel_rfl) (by kernel_rfl) ?_; simp only [Act.put, List.setIfInBounds_toArray, List.set_cons_succ, List.set_cons_zero]) | go_big_quiet_step (first | (go_at_call 24; exact q9_of (same_is (h := nth nh0 y3.nh j) (h2 := nth nh0 zx0.nh j) hQ.it (a1.ex sk9) (a2.ex sk9) s1 s2)) | (go_at_call 25; exact q9_of (kids_is hR.it (r1.ex sk9) (r2.ex sk9) (by omega))))))
            refine wpQuiet_nil ?_
            rintro _ ⟨x9, rfl⟩
            go_wp2
            go_roundw
            case rel => exact ⟨j + 1, by omega, by go_num, sk9⟩
            case measure => simp [intOf]; omega
          · have q5 : (kd == 5) = false := by rw [beq_eq_false_iff_ne]; exact k5
            have b5 : (kd != 5) = true := by rw [bne, q5]; rfl
            have hR := Hush9.mk (hr hjs (by rw [hkd.it]; exact k5))
            clear hn hr hv hjs
            replace k5 := Hush9.mk k5
            go_wp2
            refine region_plus (by kernel_rfl) (by kernel_rfl) ?_
            (repeat (first | go_big_quiet_skip | (refine wpQuiet_load_guarded 56 (Operand.tmp 71) rfl gn1 (on1 + j * 33) rfl (fN (nth nh0 y3.nh j)) _ (fun w' hw jj v hj => cell_ex (ex_trans sk9 hw) (hP.it.1 jj v hj)) Tryz.underlying56 rfl (by kernel_rfl) (by kernel_rfl) ?_; simp only [Act.put, List.setIfInBounds_toArray, List.set_cons_succ, List.set_cons_zero]) | (refine wpQuiet_load_guarded 56 (Operand.tmp 76) rfl gn2 (on2 + j * 33) rfl (fN (nth nh0 zx0.nh j)) _ (fun w' hw jj v hj => cell_ex (ex_trans sk9 hw) (hP.it.2 jj v hj)) Tryz.underlying56 rfl (by kernel_rfl) (by kernel_rfl) ?_; simp only [Act.put, List.setIfInBounds_toArray, List.set_cons_succ, List.set_cons_zero]) | go_big_quiet_step (first | (go_at_call 24; exact q9_of (same_is (h := nth nh0 y3.nh j) (h2 := nth nh0 zx0.nh j) hQ.it (a1.ex sk9) (a2.ex sk9) s1 s2)) | (go_at_call 25; exact q9_of (kids_is hR.it (r1.ex sk9) (r2.ex sk9) (by omega))))))
            refine wpQuiet_nil ?_
            rintro _ ⟨x9, rfl⟩
            go_wp2
            go_roundw
            case rel => exact ⟨j + 1, by omega, by go_num, sk9⟩
            case measure => simp [intOf]; omega
        · have ij : ¬ (j : Int) < (zh0.nn : Int) := by omega
          clear e0 e1 f0 f1
          obtain ⟨v4, hv4⟩ : ∃ v, plus v3 y = v := ⟨_, rfl⟩
          have x4 : ∃ y, v4 = plus v3 y := ⟨y, hv4.symm⟩
          rw [hv4]
          clear hv4
          have e2 := cell_ex x4 e2
          have k04 := blk_ex x4 k03
          have k14 := blk_ex x4 k13
          have p4 := blk_ex x4 p3
          have q4 := blk_ex x4 q3
          have hb4 := blk_lt k04
          have hb14 := blk_lt k14
          have hb34 := blk_lt p4
          have hq34 := blk_lt q4
          go_upto_region 19 with (first | (refine wpList_load_row rfl 34 (Operand.tmp 6) rfl b3 (by kernel_rfl) _ _ _ _ (by exact blk_ex (sk9) p4) Tryz.underlying34 rfl (by kernel_rfl) ?_) | (refine wpList_store_box rfl 34 (Operand.tmp 11) _ rfl v4.heap.size (scCells h3) (by simp [go_sem]) rfl 34 (scCells sh0).toArray (by exact blk_new2 _ _) (by kernel_rfl) (by kernel_rfl) (scCells_1 _) ?_))
          refine name_w (fun w' => (∃ y, w' = plus v4 y) ∧ w'.heap[v4.heap.size]? = some (.cells (scCells h3).toArray 34)) ⟨ex_row_new sk9 (Nat.le_refl _), blk_row_eq (blk_new2 _ _)⟩ ?_
          obtain ⟨ba, hba⟩ : ∃ v, v4.heap.size = v := ⟨_, rfl⟩
          try simp only [hba]
          rintro v5 ⟨x5, ka⟩
          have k05 := blk_ex x5 k04
          go_upto_region 20 with (first | (refine wpList_load_row rfl 34 (Operand.tmp 2) rfl b (by kernel_rfl) _ _ _ _ (by exact blk_ex (sk9) k05) Tryz.underlying34 rfl (by kernel_rfl) ?_) | (refine wpList_store_box rfl 34 (Operand.tmp 12) _ rfl v5.heap.size (scCells zh0) (by simp [go_sem]) rfl 34 (scCells sh0).toArray (by exact blk_new2 _ _) (by kernel_rfl) (by kernel_rfl) (scCells_1 _) ?_))
          refine name_w (fun w' => (∃ y, w' = plus v5 y) ∧ w'.heap[v5.heap.size]? = some (.cells (scCells zh0).toArray 34)) ⟨ex_row_new sk9 (Nat.le_refl _), blk_row_eq (blk_new2 _ _)⟩ ?_
          obtain ⟨bb, hbb⟩ : ∃ v, v5.heap.size = v := ⟨_, rfl⟩
          try simp only [hbb]
          rintro v6 ⟨x6, kb⟩
          have hab : ba < bb := by have := blk_lt ka; omega
          have ka6 := blk_ex x6 ka
          have aa0 := cell_of (i := 0) ka6 rfl
          have aa1 := cell_of (i := 1) ka6 rfl
          have aa2 := cell_of (i := 2) ka6 rfl
          have aa5 := cell_of (i := 5) ka6 rfl
          have aa6 := cell_of (i := 6) ka6 rfl
          have az0 := frozen_blk (i := 0) ka6
          have az1 := frozen_blk (i := 1) ka6
          have az2 := frozen_blk (i := 2) ka6
          have az5 := frozen_blk (i := 5) ka6
          have az6 := frozen_blk (i := 6) ka6
          have la6 := blk_lt ka6
          go_upto_region 21 with fail
          refine name_w (fun w' => (∃ y, w' = plus v4 y) ∧ w'.heap[ba]? = some (.cells (scCells (strip h3)).toArray 34) ∧ w'.heap[bb]? = some (.cells (scCells zh0).toArray 34)) ⟨ex_set_new (ex_set_new (ex_set_new (ex_set_new (ex_set_new (ex_trans x5 x6) (by omega)) (by omega)) (by omega)) (by omega)) (by omega), by have := blk_set (i := 6) (u := .int .i64 0) (blk_set (i := 5) (u := .int .i64 0) (blk_set (i := 2) (u := .slice none 0 0) (blk_set (i := 1) (u := .slice none 0 0) (blk_set (i := 0) (u := .slice none 0 0) (ka6))))); exact this, blk_set_far (blk_set_far (blk_set_far (blk_set_far (blk_set_far (kb) (by omega)) (by omega)) (by omega)) (by omega)) (by omega)⟩ ?_
          clear aa0 aa1 aa2 aa5 aa6 az0 az1 az2 az5 az6 la6 ka6
          rintro v7 ⟨x7, ka, kb⟩
          have aa0 := cell_of (i := 0) kb rfl
          have aa1 := cell_of (i := 1) kb rfl
          have aa2 := cell_of (i := 2) kb rfl
          have aa5 := cell_of (i := 5) kb rfl
          have aa6 := cell_of (i := 6) kb rfl
          have az0 := frozen_blk (i := 0) kb
          have az1 := frozen_blk (i := 1) kb
          have az2 := frozen_blk (i := 2) kb
          have az5 := frozen_blk (i := 5) kb
          have az6 := frozen_blk (i := 6) kb
          have la6 := blk_lt kb
          go_upto_region 22 with fail
          refine name_w (fun w' => (∃ y, w' = plus v4 y) ∧ w'.heap[ba]? = some (.cells (scCells (strip h3)).toArray 34) ∧ w'.heap[bb]? = some (.cells (scCells (strip zh0)).toArray 34)) ⟨ex_set_new (ex_set_new (ex_set_new (ex_set_new (ex_set_new (x7) (by omega)) (by omega)) (by omega)) (by omega)) (by omega), blk_set_far (blk_set_far (blk_set_far (blk_set_far (blk_set_far (ka) (by omega)) (by omega)) (by omega)) (by omega)) (by omega), by have := blk_set (i := 6) (u := .int .i64 0) (blk_set (i := 5) (u := .int .i64 0) (blk_set (i := 2) (u := .slice none 0 0) (blk_set (i := 1) (u := .slice none 0 0) (blk_set (i := 0) (u := .slice none 0 0) (kb))))); exact this⟩ ?_
          clear aa0 aa1 aa2 aa5 aa6 az0 az1 az2 az5 az6 la6
          rintro v8 ⟨x8, ka, kb⟩
          have x48 := ex_trans x4 x8
          have u0 := cell_ex x48 u0
          have u1 := cell_ex x48 u1
          have lz1 := blk_lt (blk_ex x8 k14)
          have A8 := A1.ex x48
          have Z8 := AZ.ex x48
          have G8 := ex_trans GA x48
          clear k04 p4 x5 x6 x7 k05 q4
          have n6 : ¬ kd = 6 := by have := q8.it; omega
          have n7 : ¬ kd = 7 := by have := q8.it; omega
          have b6 : (kd != 6) = true := by rw [bne, r6]; rfl
          have b7 : (kd != 7) = true := by rw [bne, r7]; rfl
          have hst := TO.it.st (by rw [hkd.it]; exact n6) (by rw [hkd.it]; exact n7)
          have SM : TwoV 20 v8 (scCells (strip h3)) (scCells (strip zh0)) (.bool true) := ⟨fun w' hw => lsame10_is (strip_at (A8.ex hw)) (strip_at (Z8.ex hw)) (by rw [show stripS S = stripS zs0 by rw [stripS, stripS, hst.1, hst.2]]; exact sameSc_refl _)⟩
          clear hst
          go_wp2_with (first | (refine wpList_load_row rfl 34 (Operand.tmp 11) rfl ba (by kernel_rfl) _ _ _ _ (by exact blk_ex (sk9) ka) Tryz.underlying34 rfl (by kernel_rfl) ?_) | (refine wpList_load_row rfl 34 (Operand.tmp 12) rfl bb (by kernel_rfl) _ _ _ _ (by exact blk_ex (sk9) kb) Tryz.underlying34 rfl (by kernel_rfl) ?_) | (go_at_call 20; refine (SM.it _ sk9).mono ?_; rintro e w' ⟨rfl, nx7, rfl⟩))
          go_ret
          exact ⟨rfl, by first | exact below_ex (ex_trans G8 sk9) | (rw [← hb]; exact below_ex (ex_trans G8 sk9))⟩

end

end Go.Proofs.YtcekcihijdipoaaGreat
