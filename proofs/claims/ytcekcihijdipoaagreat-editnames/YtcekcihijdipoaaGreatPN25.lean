/- A pack of texts: EditNames. -/
import Derived.Deep.DeepCutAuto
import Derived.Test.YtcekcihijdipoaaGreatPN24
import Derived.Test.YtcekcihijdipoaaGreatPN1
namespace Go.Proofs.YtcekcihijdipoaaGreat

section


open Go.RowKit Go.ChangeShapes Go.WideShapes Go.ChangeAt

set_option linter.unusedSimpArgs false

set_option linter.unusedVariables false

attribute [local go_sem] plus_size plus_drew dn_set dn_alloc dn_plus plus_dn cell_plus frozen_plus set_plus cell_alloc frozen_alloc set_alloc

theorem wpList_make_guarded {P : Program} {ops : Array Oper} {rest : List Oper} {o : Oper} {a : Act} {w w' : World} {Q : Exit → Act → World → Prop} {v : Value} (t : TypeId) (l c : Operand) (ho : o.op = .makeSlice t l c) (hrun : (Instr.makeSlice t (a.eval l) (a.eval c)).run P w = .ok v w') (hw : Region.wanted o (yielded ops a.tmps) = true)
    (h : wpList P ops Q rest (a.put o.dst v) w') : wpList P ops Q (o :: rest) a w :=
  wpList_step fun K hK => by
    rw [if_pos hw]
    unfold Oper.wp execOp
    simp only [ho, Sem.run_bind, hrun, Result.andThen_ok, Sem.run_pure]
    exact hK _ _ h

def oneH (b : Nat) : SH := ⟨none, 0, 0, none, 0, 0, some ⟨b, 0, none⟩, 1, 1, none, 0, 0, none, 0, 0, 0, 0⟩

def oneX : SX := ⟨[], [nh0], [], [], []⟩

def oneS : Sc := ⟨⟨[], []⟩, [nd0], [], [], (0, 0)⟩

theorem one_at {w : World} {b : Nat} (h : w.heap[b]? = some (.cells (fN nh0).toArray 56)) : ScAt w (oneH b) oneX oneS := by
  have z := sc0_at (w := w)
  refine ⟨z.g, ⟨lay_one10 h, ⟨rfl, fun k hk => ?_⟩, z.r.ml, z.r.ms, z.r.tl, z.r.ts, (by show 1 ≤ _; omega), Nat.zero_le _, Nat.zero_le _, rfl⟩, ⟨by decide, by decide, fun k hk => by simp [oneS] at hk, by decide, by decide, by decide, fun k hk => ?_, fun k hk => by simp [oneS] at hk, fun k hk => by simp [oneS] at hk⟩⟩
  · have : k < 1 := hk
    obtain rfl : k = 0 := by omega
    exact nd0_at _
  · have : k < 1 := hk
    obtain rfl : k = 0 := by omega
    exact Nat.zero_le _

def scA : Sc := ⟨sc1.g, sc1.ns, [ms0], [], (0, 0)⟩

def scB : Sc := ⟨sc1.g, sc1.ns, [ms0], [], (0, 1)⟩

def scC : Sc := ⟨⟨[⟨1, false⟩], [[]]⟩, [nd0], [ms0], [], (0, 0)⟩

set_option maxRecDepth 100000 in
theorem names2 : doErr sc1 (edK 6 0 0 0 0 (-1) nd0) = 0 ∧ tookH sc1 (edK 6 0 0 0 0 (-1) nd0) = (0, 0) ∧ tookN sc1 (edK 6 0 0 0 0 (-1) nd0) = 0 ∧ doSc sc1 (edK 6 0 0 0 0 (-1) nd0) = scA ∧ maySc scA = true := ⟨by kernel_rfl, by kernel_rfl, by kernel_rfl, by kernel_rfl, by kernel_rfl⟩

set_option maxRecDepth 100000 in
theorem names3 : doErr scA (edK 6 0 0 0 0 1 nd0) = 2 ∧ doErr scA (edK 3 0 1 0 1 0 nd0) = 60 ∧ doErr sc1 (edK 9 0 0 0 0 0 nd0) = 2 ∧ scErr sc0 = 0 ∧ scErr oneS = 8 := ⟨by kernel_rfl, by kernel_rfl, by kernel_rfl, by kernel_rfl, by kernel_rfl⟩

set_option maxRecDepth 100000 in
theorem names5 : doErr scA (edK 8 0 1 0 0 0 nd0) = 0 ∧ tookH scA (edK 8 0 1 0 0 0 nd0) = (0, 0) ∧ tookN scA (edK 8 0 1 0 0 0 nd0) = 0 ∧ doSc scA (edK 8 0 1 0 0 0 nd0) = scB ∧ maySc scB = true := ⟨by kernel_rfl, by kernel_rfl, by kernel_rfl, by kernel_rfl, by kernel_rfl⟩

set_option maxRecDepth 100000 in
theorem names6 : doErr scB (edK 5 0 1 0 0 0 nd0) = 0 ∧ tookH scB (edK 5 0 1 0 0 0 nd0) = (0, 0) ∧ tookN scB (edK 5 0 1 0 0 0 nd0) = 0 ∧ doSc scB (edK 5 0 1 0 0 0 nd0) = scC ∧ maySc scC = true := ⟨by kernel_rfl, by kernel_rfl, by kernel_rfl, by kernel_rfl, by kernel_rfl⟩

structure ChkV (w : World) (na : Option Addr) (nn nc : Nat) (v : Int) : Prop where
  it : Calls Tryz.prog 12 #[.agg #[.slice none 0 0, .slice none 0 0, .slice na nn nc, .slice none 0 0, .slice none 0 0, .int .i64 0, .int .i64 0]] w fun e w' => e = .returned (.int .i64 v) ∧ ∃ y, w' = plus w y

theorem chk_none {w : World} : ChkV w none 0 0 0 := ⟨lcheck10_is (h := sh0) (x := sx0) (s := sc0) sc0_at (v := 0) names3.2.2.2.1⟩

theorem chk_one {w : World} {b : Nat} (h : w.heap[b]? = some (.cells (fN nh0).toArray 56)) : ChkV w (some ⟨b, 0, none⟩) 1 1 8 := ⟨lcheck10_is (h := oneH b) (x := oneX) (s := oneS) (one_at h) (v := 8) names3.2.2.2.2⟩

theorem do_no {h : SH} {x : SX} {s : Sc} {w : World} {kd h0 h1 c0 c1 p : Int} {er : Int} (hA : ScAt w h x s) (hk : 0 ≤ kd ∧ kd ≤ 255) (he : doErr s (edK kd h0 h1 c0 c1 p nd0) = er) (h0' : er ≠ 0) : DoV w (scCells h) (fE (eK kd h0 h1 c0 c1 p nh0)) 0 0 0 er sc0 :=
  do_v hA (eK_at hk (nd0_at _)) (Nat.zero_le _) (do_refused he h0').2.1 (do_refused he h0').2.2 he (do_refused he h0').1

set_option maxRecDepth 100000 in
set_option maxHeartbeats 16000000 in
theorem editNames_walk (w : World) :
    Calls Tryz.prog 3 #[] w fun e w' => e = .returned (.bool true) ∧ Below w.heap.size w w' := by
  have D1 : DoV w (scCells sh0) (fE grpE) 0 1 0 0 sc1 := do_v sc0_at (eK_at (by decide) (kN_at (by decide))) (by decide) sc1_is.2.1 sc1_is.2.2.1 sc1_is.1 sc1_is.2.2.2.1
  have few1 := few_may sc1_is.2.2.2.2
  have fewA := few_may names2.2.2.2.2
  have fewB := few_may names5.2.2.2.2
  have hmk : ∀ w : World, (Instr.makeSlice 28 (.int .i64 1) (.int .i64 1)).run Tryz.prog w = .ok (.slice (some ⟨w.heap.size, 0, none⟩) 1 1) (w.alloc (.cells (fN nh0).toArray 56)) := fun w => run_make_zero (P := Tryz.prog) (f := fN) (d := nh0) (t := 28) (e := 56) (z := .agg (fN nh0).toArray) (c := 33) (b := 224) (by kernel_rfl) rfl Tryz.underlying28 fN_c (by decide) (by decide) 1 (by decide) w
  go_enter Tryz.func3, Tryz.ntmps3
  go_upto_region 2 with (first | (go_at_call 10; refine (group_calls _).mono ?_; rintro e w' ⟨rfl, nx, rfl⟩) | (go_at_call 9; refine (D1.it _ (sk9)).mono ?_; rintro r w1 ⟨h1, y1, rfl, x1, o1⟩) | (refine wpList_store_box rfl 34 (Operand.tmp 1) _ rfl w1.heap.size (scCells h1) (by simp [go_sem]) rfl 34 (scCells sh0).toArray (by exact blk_old (blk_new2 _ _)) (by kernel_rfl) (by kernel_rfl) (scCells_1 _) ?_) | (refine wpList_store_box rfl 36 (Operand.tmp 2) _ rfl (w1.heap.size + 1) [.int .i64 0, .int .i64 1, .int .i64 0] (by simp [go_sem]) rfl 36 #[.int .i64 0, .int .i64 0, .int .i64 0] (by exact blk_row_far (blk_new3 _ _ _) (by omega)) (by kernel_rfl) rfl (by intro v hv; simp at hv; rcases hv with rfl | rfl | rfl <;> rfl) ?_))
  refine name_w (fun w' => (∃ y, w' = plus w1 y) ∧ w'.heap[w1.heap.size]? = some (.cells (scCells h1).toArray 34) ∧ w'.heap[w1.heap.size + 1]? = some (.cells #[.int .i64 0, .int .i64 1, .int .i64 0] 36)) ⟨ex_row_new (ex_row_new sk9 (Nat.le_refl _)) (Nat.le_succ _), blk_row_far (blk_row_eq (blk_old (blk_new2 _ _))) (by omega), blk_row_eq (blk_row_far (blk_new3 _ _ _) (by omega))⟩ ?_
  obtain ⟨b1, hb1⟩ : ∃ b, w1.heap.size = b := ⟨_, rfl⟩
  try simp only [hb1]
  rintro v1 ⟨z1, p1, q1⟩
  have A1 := (o1.at few1).ex z1
  have g1 := ex_trans (ex_trans (sk9 : ∃ y, plus w nx = plus w y) x1) z1
  have D2 : DoV v1 (scCells h1) (fE (eK 6 0 0 0 0 (-1) nh0)) 0 0 0 0 scA := do_v A1 (eK_at (by decide) (nd0_at _)) (by decide) names2.2.1 names2.2.2.1 names2.1 names2.2.2.2.1
  have D7 : DoV v1 (scCells h1) (fE (eK 9 0 0 0 0 0 nh0)) 0 0 0 2 sc0 := do_no A1 (by decide) names3.2.2.1 (by decide)
  clear D1 A1 o1 x1 z1
  go_upto_region 3 with (first | (refine wpList_load_row rfl 34 (Operand.tmp 1) rfl b1 (by kernel_rfl) _ _ _ _ (by exact blk_ex sk9 p1) Tryz.underlying34 rfl (by kernel_rfl) ?_) | (refine wpList_build_is rfl 66 _ rfl (fE (eK 6 0 0 0 0 (-1) nh0)) ?hf ?_; case hf => (simp only [List.map_toArray, List.map_cons, List.map_nil]; kernel_rfl)) | (go_at_call 9; refine (D2.it _ (sk9)).mono ?_; rintro r w2 ⟨h2, y2, rfl, x2, o2⟩) | (refine wpList_store_box rfl 34 (Operand.tmp 4) _ rfl w2.heap.size (scCells h2) (by simp [go_sem]) rfl 34 (scCells sh0).toArray (by exact blk_old (blk_new2 _ _)) (by kernel_rfl) (by kernel_rfl) (scCells_1 _) ?_) | (refine wpList_store_box rfl 36 (Operand.tmp 5) _ rfl (w2.heap.size + 1) [.int .i64 0, .int .i64 0, .int .i64 0] (by simp [go_sem]) rfl 36 #[.int .i64 0, .int .i64 0, .int .i64 0] (by exact blk_row_far (blk_new3 _ _ _) (by omega)) (by kernel_rfl) rfl (by intro v hv; simp at hv; rcases hv with rfl | rfl | rfl <;> rfl) ?_))
  refine name_w (fun w' => (∃ y, w' = plus w2 y) ∧ w'.heap[w2.heap.size]? = some (.cells (scCells h2).toArray 34) ∧ w'.heap[w2.heap.size + 1]? = some (.cells #[.int .i64 0, .int .i64 0, .int .i64 0] 36)) ⟨ex_row_new (ex_row_new sk9 (Nat.le_refl _)) (Nat.le_succ _), blk_row_far (blk_row_eq (blk_old (blk_new2 _ _))) (by omega), blk_row_eq (blk_row_far (blk_new3 _ _ _) (by omega))⟩ ?_
  obtain ⟨b2, hb2⟩ : ∃ b, w2.heap.size = b := ⟨_, rfl⟩
  try simp only [hb2]
  rintro v2 ⟨z2, p2, q2⟩
  have A2 := (o2.at fewA).ex z2
  have g2 := ex_trans x2 z2
  have D3 : DoV v2 (scCells h2) (fE (eK 6 0 0 0 0 1 nh0)) 0 0 0 2 sc0 := do_no A2 (by decide) names3.1 (by decide)
  have D4 : DoV v2 (scCells h2) (fE (eK 3 0 1 0 1 0 nh0)) 0 0 0 60 sc0 := do_no A2 (by decide) names3.2.1 (by decide)
  have D5 : DoV v2 (scCells h2) (fE (eK 8 0 1 0 0 0 nh0)) 0 0 0 0 scB := do_v A2 (eK_at (by decide) (nd0_at _)) (by decide) names5.2.1 names5.2.2.1 names5.1 names5.2.2.2.1
  clear D2 A2 o2 x2 z2
  go_upto_region 4 with (first | (refine wpList_load_row rfl 34 (Operand.tmp 4) rfl b2 (by kernel_rfl) _ _ _ _ (by exact blk_ex sk9 p2) Tryz.underlying34 rfl (by kernel_rfl) ?_) | (refine wpList_build_is rfl 66 _ rfl (fE (eK 6 0 0 0 0 1 nh0)) ?hf ?_; case hf => (simp only [List.map_toArray, List.map_cons, List.map_nil]; kernel_rfl)) | (go_at_call 9; refine (D3.it _ (sk9)).mono ?_; rintro r w3 ⟨h3, y3, rfl, x3, o3⟩) | (refine wpList_store_box rfl 34 (Operand.tmp 7) _ rfl w3.heap.size (scCells h3) (by simp [go_sem]) rfl 34 (scCells sh0).toArray (by exact blk_old (blk_new2 _ _)) (by kernel_rfl) (by kernel_rfl) (scCells_1 _) ?_) | (refine wpList_store_box rfl 36 (Operand.tmp 8) _ rfl (w3.heap.size + 1) [.int .i64 0, .int .i64 0, .int .i64 0] (by simp [go_sem]) rfl 36 #[.int .i64 0, .int .i64 0, .int .i64 0] (by exact blk_row_far (blk_new3 _ _ _) (by omega)) (by kernel_rfl) rfl (by intro v hv; simp at hv; rcases hv with rfl | rfl | rfl <;> rfl) ?_))
  refine name_w (fun w' => (∃ y, w' = plus w3 y) ∧ w'.heap[w3.heap.size]? = some (.cells (scCells h3).toArray 34) ∧ w'.heap[w3.heap.size + 1]? = some (.cells #[.int .i64 0, .int .i64 0, .int .i64 0] 36)) ⟨ex_row_new (ex_row_new sk9 (Nat.le_refl _)) (Nat.le_succ _), blk_row_far (blk_row_eq (blk_old (blk_new2 _ _))) (by omega), blk_row_eq (blk_row_far (blk_new3 _ _ _) (by omega))⟩ ?_
  obtain ⟨b3, hb3⟩ : ∃ b, w3.heap.size = b := ⟨_, rfl⟩
  try simp only [hb3]
  rintro v3 ⟨z3, p3, q3⟩
  have g3 := ex_trans x3 z3
  have p23 := blk_ex g3 p2
  have q13 := blk_ex (ex_trans g2 g3) q1
  have c0 : v3.cell? ⟨b1 + 1, 0, none⟩ = some (.int .i64 0) := cell_blk q13 rfl
  have c1 : v3.cell? ⟨b1 + 1, 1, none⟩ = some (.int .i64 1) := cell_blk q13 rfl
  have lq := blk_lt q13
  clear D3 o3 x3 z3
  go_upto_region 5 with (first | (refine wpList_load_row rfl 34 (Operand.tmp 4) rfl b2 (by kernel_rfl) _ _ _ _ (by exact blk_ex sk9 p23) Tryz.underlying34 rfl (by kernel_rfl) ?_) | (refine wpList_build_is rfl 66 _ rfl (fE (eK 3 0 1 0 1 0 nh0)) ?hf ?_; case hf => (simp only [List.map_toArray, List.map_cons, List.map_nil]; kernel_rfl)) | (go_at_call 9; refine (D4.it _ (ex_trans g3 sk9)).mono ?_; rintro r w4 ⟨h4, y4, rfl, x4, o4⟩) | (refine wpList_store_box rfl 34 (Operand.tmp 10) _ rfl w4.heap.size (scCells h4) (by simp [go_sem]) rfl 34 (scCells sh0).toArray (by exact blk_old (blk_new2 _ _)) (by kernel_rfl) (by kernel_rfl) (scCells_1 _) ?_) | (refine wpList_store_box rfl 36 (Operand.tmp 11) _ rfl (w4.heap.size + 1) [.int .i64 0, .int .i64 0, .int .i64 0] (by simp [go_sem]) rfl 36 #[.int .i64 0, .int .i64 0, .int .i64 0] (by exact blk_row_far (blk_new3 _ _ _) (by omega)) (by kernel_rfl) rfl (by intro v hv; simp at hv; rcases hv with rfl | rfl | rfl <;> rfl) ?_))
  refine name_w (fun w' => (∃ y, w' = plus w4 y) ∧ w'.heap[w4.heap.size]? = some (.cells (scCells h4).toArray 34) ∧ w'.heap[w4.heap.size + 1]? = some (.cells #[.int .i64 0, .int .i64 0, .int .i64 0] 36)) ⟨ex_row_new (ex_row_new sk9 (Nat.le_refl _)) (Nat.le_succ _), blk_row_far (blk_row_eq (blk_old (blk_new2 _ _))) (by omega), blk_row_eq (blk_row_far (blk_new3 _ _ _) (by omega))⟩ ?_
  obtain ⟨b4, hb4⟩ : ∃ b, w4.heap.size = b := ⟨_, rfl⟩
  try simp only [hb4]
  rintro v4 ⟨z4, p4, q4⟩
  have g4 := ex_trans x4 z4
  have p24 := blk_ex g4 p23
  have q14 := blk_ex g4 q13
  have c0 : v4.cell? ⟨b1 + 1, 0, none⟩ = some (.int .i64 0) := cell_blk q14 rfl
  have c1 : v4.cell? ⟨b1 + 1, 1, none⟩ = some (.int .i64 1) := cell_blk q14 rfl
  have lq := blk_lt q14
  clear D4 o4 x4 z4
  go_upto_region 6 with (first | (refine wpList_load_row rfl 34 (Operand.tmp 4) rfl b2 (by kernel_rfl) _ _ _ _ (by exact blk_ex sk9 p24) Tryz.underlying34 rfl (by kernel_rfl) ?_) | (refine wpList_build_is rfl 66 _ rfl (fE (eK 8 0 1 0 0 0 nh0)) ?hf ?_; case hf => (simp only [List.map_toArray, List.map_cons, List.map_nil]; kernel_rfl)) | (go_at_call 9; refine (D5.it _ (ex_trans (ex_trans g3 g4) sk9)).mono ?_; rintro r w5 ⟨h5, y5, rfl, x5, o5⟩) | (refine wpList_store_box rfl 34 (Operand.tmp 13) _ rfl w5.heap.size (scCells h5) (by simp [go_sem]) rfl 34 (scCells sh0).toArray (by exact blk_old (blk_new2 _ _)) (by kernel_rfl) (by kernel_rfl) (scCells_1 _) ?_) | (refine wpList_store_box rfl 36 (Operand.tmp 14) _ rfl (w5.heap.size + 1) [.int .i64 0, .int .i64 0, .int .i64 0] (by simp [go_sem]) rfl 36 #[.int .i64 0, .int .i64 0, .int .i64 0] (by exact blk_row_far (blk_new3 _ _ _) (by omega)) (by kernel_rfl) rfl (by intro v hv; simp at hv; rcases hv with rfl | rfl | rfl <;> rfl) ?_))
  refine name_w (fun w' => (∃ y, w' = plus w5 y) ∧ w'.heap[w5.heap.size]? = some (.cells (scCells h5).toArray 34) ∧ w'.heap[w5.heap.size + 1]? = some (.cells #[.int .i64 0, .int .i64 0, .int .i64 0] 36)) ⟨ex_row_new (ex_row_new sk9 (Nat.le_refl _)) (Nat.le_succ _), blk_row_far (blk_row_eq (blk_old (blk_new2 _ _))) (by omega), blk_row_eq (blk_row_far (blk_new3 _ _ _) (by omega))⟩ ?_
  obtain ⟨b5, hb5⟩ : ∃ b, w5.heap.size = b := ⟨_, rfl⟩
  try simp only [hb5]
  rintro v5 ⟨z5, p5, q5⟩
  have A5 := (o5.at fewB).ex z5
  have g5 := ex_trans x5 z5
  have r5 := o5.root
  have q15 := blk_ex g5 q14
  have D6 : DoV v5 (scCells h5) (fE (eK 5 0 1 0 0 0 nh0)) 0 0 0 0 scC := do_v A5 (eK_at (by decide) (nd0_at _)) (by decide) names6.2.1 names6.2.2.1 names6.1 names6.2.2.2.1
  have c0 : v5.cell? ⟨b1 + 1, 0, none⟩ = some (.int .i64 0) := cell_blk q15 rfl
  have c1 : v5.cell? ⟨b1 + 1, 1, none⟩ = some (.int .i64 1) := cell_blk q15 rfl
  have lq := blk_lt q15
  clear D5 A5 o5 x5 z5
  go_upto_region 7 with (first | (refine wpList_load_row rfl 34 (Operand.tmp 13) rfl b5 (by kernel_rfl) _ _ _ _ (by exact blk_ex sk9 p5) Tryz.underlying34 rfl (by kernel_rfl) ?_) | (refine wpList_build_is rfl 66 _ rfl (fE (eK 5 0 1 0 0 0 nh0)) ?hf ?_; case hf => (simp only [List.map_toArray, List.map_cons, List.map_nil]; kernel_rfl)) | (go_at_call 9; refine (D6.it _ (sk9)).mono ?_; rintro r w6 ⟨h6, y6, rfl, x6, o6⟩) | (refine wpList_store_box rfl 34 (Operand.tmp 16) _ rfl w6.heap.size (scCells h6) (by simp [go_sem]) rfl 34 (scCells sh0).toArray (by exact blk_old (blk_new2 _ _)) (by kernel_rfl) (by kernel_rfl) (scCells_1 _) ?_) | (refine wpList_store_box rfl 36 (Operand.tmp 17) _ rfl (w6.heap.size + 1) [.int .i64 0, .int .i64 0, .int .i64 0] (by simp [go_sem]) rfl 36 #[.int .i64 0, .int .i64 0, .int .i64 0] (by exact blk_row_far (blk_new3 _ _ _) (by omega)) (by kernel_rfl) rfl (by intro v hv; simp at hv; rcases hv with rfl | rfl | rfl <;> rfl) ?_))
  refine name_w (fun w' => (∃ y, w' = plus w6 y) ∧ w'.heap[w6.heap.size]? = some (.cells (scCells h6).toArray 34) ∧ w'.heap[w6.heap.size + 1]? = some (.cells #[.int .i64 0, .int .i64 0, .int .i64 0] 36)) ⟨ex_row_new (ex_row_new sk9 (Nat.le_refl _)) (Nat.le_succ _), blk_row_far (blk_row_eq (blk_old (blk_new2 _ _))) (by omega), blk_row_eq (blk_row_far (blk_new3 _ _ _) (by omega))⟩ ?_
  obtain ⟨b6, hb6⟩ : ∃ b, w6.heap.size = b := ⟨_, rfl⟩
  try simp only [hb6]
  rintro v6 ⟨z6, p6, q6⟩
  have g6 := ex_trans x6 z6
  have r6 := o6.root
  have p16 := blk_ex (ex_trans (ex_trans (ex_trans (ex_trans g2 g3) g4) g5) g6) p1
  clear D6 o6 x6 z6
  go_upto_region 8 with (first | (refine wpList_load_row rfl 34 (Operand.tmp 1) rfl b1 (by kernel_rfl) _ _ _ _ (by exact blk_ex sk9 p16) Tryz.underlying34 rfl (by kernel_rfl) ?_) | (refine wpList_build_is rfl 66 _ rfl (fE (eK 9 0 0 0 0 0 nh0)) ?hf ?_; case hf => (simp only [List.map_toArray, List.map_cons, List.map_nil]; kernel_rfl)) | (go_at_call 9; refine (D7.it _ (ex_trans (ex_trans (ex_trans (ex_trans (ex_trans g2 g3) g4) g5) g6) sk9)).mono ?_; rintro r w7 ⟨h7, y7, rfl, x7, o7⟩) | (refine wpList_store_box rfl 34 (Operand.tmp 19) _ rfl w7.heap.size (scCells h7) (by simp [go_sem]) rfl 34 (scCells sh0).toArray (by exact blk_old (blk_new2 _ _)) (by kernel_rfl) (by kernel_rfl) (scCells_1 _) ?_) | (refine wpList_store_box rfl 36 (Operand.tmp 20) _ rfl (w7.heap.size + 1) [.int .i64 0, .int .i64 0, .int .i64 0] (by simp [go_sem]) rfl 36 #[.int .i64 0, .int .i64 0, .int .i64 0] (by exact blk_row_far (blk_new3 _ _ _) (by omega)) (by kernel_rfl) rfl (by intro v hv; simp at hv; rcases hv with rfl | rfl | rfl <;> rfl) ?_))
  refine name_w (fun w' => (∃ y, w' = plus w7 y) ∧ w'.heap[w7.heap.size]? = some (.cells (scCells h7).toArray 34) ∧ w'.heap[w7.heap.size + 1]? = some (.cells #[.int .i64 0, .int .i64 0, .int .i64 0] 36)) ⟨ex_row_new (ex_row_new sk9 (Nat.le_refl _)) (Nat.le_succ _), blk_row_far (blk_row_eq (blk_old (blk_new2 _ _))) (by omega), blk_row_eq (blk_row_far (blk_new3 _ _ _) (by omega))⟩ ?_
  obtain ⟨b7, hb7⟩ : ∃ b, w7.heap.size = b := ⟨_, rfl⟩
  try simp only [hb7]
  rintro v7 ⟨z7, p7, q7⟩
  have g7 := ex_trans x7 z7
  clear D7 o7 x7 z7
  have G57 := ex_trans g6 g7
  have q17 := blk_ex G57 q15
  have p57 := blk_ex G57 p5
  have p67 := blk_ex g7 p6
  have q27 := blk_ex (ex_trans (ex_trans (ex_trans g3 g4) g5) G57) q2
  simp only [scB, scC, Prod.mk.injEq] at r5 r6
  have e0 : v7.cell? ⟨b5, 5, none⟩ = some (.int .i64 h5.r0) := cell_of p57 rfl
  have e1 : v7.cell? ⟨b5, 6, none⟩ = some (.int .i64 h5.r1) := cell_of p57 rfl
  have f0 : v7.cell? ⟨b6, 5, none⟩ = some (.int .i64 h6.r0) := cell_of p67 rfl
  have f1 : v7.cell? ⟨b6, 6, none⟩ = some (.int .i64 h6.r1) := cell_of p67 rfl
  rw [← r5.1] at e0
  rw [← r5.2] at e1
  rw [← r6.1] at f0
  rw [← r6.2] at f1
  have c0 : v7.cell? ⟨b1 + 1, 0, none⟩ = some (.int .i64 0) := cell_blk q17 rfl
  have c1 : v7.cell? ⟨b1 + 1, 1, none⟩ = some (.int .i64 1) := cell_blk q17 rfl
  have d2 : v7.cell? ⟨b2 + 1, 2, none⟩ = some (.int .i64 0) := cell_blk q27 rfl
  have l1 := blk_lt q17
  have l2 := blk_lt q27
  have l5 := blk_lt p57
  have l6 := blk_lt p67
  have GA := ex_trans (ex_trans (ex_trans (ex_trans g1 g2) g3) g4) (ex_trans g5 G57)
  clear r5 r6 p5 p6 p57 p67 q1 q2 q13 q14 q15 q27 p1 p2 p23 p24 p16 g1 g2 g3 g4 g5 g6 g7 G57 few1 fewA fewB
  go_upto_region 9 with fail
  go_wp2_with (first | (refine wpList_make_guarded 28 (Operand.const (.int .i64 1)) (Operand.const (.int .i64 1)) rfl (hmk _) (by kernel_rfl) ?_) | (go_at_call 11; refine (alive_calls _).mono ?_; rintro e wa ⟨rfl, xa⟩) | (go_at_call 12; refine (ChkV.it (by first | exact chk_none | exact chk_one (blk_new2 _ _))).mono ?_; rintro e wb ⟨rfl, xb⟩))
  go_ret
  exact ⟨rfl, below_ex (by with_reducible repeat (first | exact GA | exact ex_refl _ | exact ex_more9 | apply ex_alloc | apply ex_plus | apply ex_drew | apply ex_drewN | (apply ex_on; assumption)))⟩

set_option maxRecDepth 100000 in
theorem editNames_lifted (os : Os) (started : os.Started) (H : Type) (enc : TypeId × Value → H) :
    ReturnsInHanded {} Tryz.checked os 3 .any (Rows.editNamesSpec.pre6 enc Tryz.prog Tryz.f3 Rows.editNamesRow.domain false) (Rows.editNamesSpec.post enc Tryz.prog Tryz.f3 false true false false) := by
  refine returnsInHanded_of_change (C := Tryz.checked) own started (by kernel_rfl) Tryz.func3
    (ChangeSpec.witness6 (enc := enc) (C := Tryz.checked) false ⟨#[], #[], []⟩ 8 (by kernel_rfl) (by kernel_rfl) (by kernel_rfl) (by kernel_rfl)) ?_
  intro W base args ds gs before hval0 hW hcnd _
  have hval : ∀ (j : Nat) t v, Tryz.f3.params[j]? = some t → args[j]? = some v → Value.okWide Tryz.prog W .any base t v := hval0
  have hW' := hW
  obtain ⟨p, q, hA0, hV, rfl, hfz, hnd⟩ := hW
  have hA : DataW.TrodAll enc Tryz.prog W 0 (fun _ => true) true Tryz.f3.params.toList args.toList ds p := hA0
  rw [Tryz.params3] at hA hval
  obtain ⟨hargs, rfl, rfl⟩ := trodAll_nil hA
  obtain rfl : args = #[] := by cases args; simp_all
  refine (editNames_walk   W ).mono fun e W' ⟨he, hb⟩ => ?_
  exact ⟨_, he, law_post laidOut Tryz.underlying4 rfl (by kernel_rfl) (by kernel_rfl) (fun ds h => match ds, h with | [], _ => rfl) hW' hb⟩

theorem editNames_holds : Rows.EditNamesSaid :=
  OpenClaim.holds_of_wide 3 Tryz.f3 rfl rfl rfl rfl rfl rfl rfl ⟨rfl, rfl, rfl, rfl, rfl⟩ rfl rfl rfl rfl rfl (by kernel_rfl) Tryz.func3 (by kernel_rfl)
    (of_decide_eq_true (by kernel_rfl)) (by unfold Func.isWrapper; first | (rw [if_pos (by decide +kernel)]; kernel_rfl) | (rw [if_neg (by decide +kernel)]; exact ⟨rfl, rfl⟩))
    (fun os started H enc _ => editNames_lifted os started H enc)
#print axioms editNames_holds

end

end Go.Proofs.YtcekcihijdipoaaGreat
