/- A pack of texts: EdSame, StOpen, EdNm, EdNm2, Rel4, Turn, BuildOne, EdNm4, EdLf. -/
import Derived.Laws.Tables
import Derived.Deep.DeepCutAuto
import Derived.Test.YtcekcihijdipoaaGreatPN8
import Derived.Test.YtcekcihijdipoaaGreatPN10
import Derived.Test.YtcekcihijdipoaaGreatPN1
import Derived.Test.YtcekcihijdipoaaGreatPN7
import Derived.Test.YtcekcihijdipoaaGreatPN4
import Derived.Test.YtcekcihijdipoaaGreatPN3
import Derived.Test.YtcekcihijdipoaaGreatPN5
namespace Go.Proofs.YtcekcihijdipoaaGreat

section


open Go.RowKit Go.ChangeShapes Go.WideShapes Go.ChangeAt

set_option linter.unusedSimpArgs false

set_option linter.unusedVariables false

attribute [local go_sem] plus_size plus_drew dn_set dn_alloc dn_plus plus_dn cell_plus frozen_plus set_plus cell_alloc frozen_alloc set_alloc

end

section


open Go.RowKit Go.ChangeShapes Go.WideShapes Go.ChangeAt

set_option linter.unusedSimpArgs false

set_option linter.unusedVariables false

attribute [local go_sem] plus_size plus_drew dn_set dn_alloc dn_plus plus_dn cell_plus frozen_plus set_plus cell_alloc frozen_alloc set_alloc

def fSy (s : Sy) : List Value := [.int .u8 s.s0, .int .u8 s.s1, .int .u8 s.s2, .int .u8 s.s3, .int .u8 s.s4, .int .u8 s.l.r, .int .u8 s.l.g, .int .u8 s.l.b, .int .u8 s.l.a, .int .i64 s.l.tx, .int .u8 s.l.cu, .int .i64 s.l.bi, .bool s.l.bl, .int .i64 s.l.bn]

section

variable {H : Type} {enc : TypeId × Value → H} {P : Program} {W : World} {base : Nat} {spare : Nat → Bool} {held : Bool} {t : TypeId}

end

end

section


open Go.RowKit Go.ChangeShapes Go.WideShapes Go.ChangeAt

set_option linter.unusedSimpArgs false

set_option linter.unusedVariables false

attribute [local go_sem] plus_size plus_drew dn_set dn_alloc dn_plus plus_dn cell_plus frozen_plus set_plus cell_alloc frozen_alloc set_alloc

def namedF (f : NF) : NF := ⟨f.kind, if f.kind = 2 then f.m else zeroM, if f.kind = 3 then f.on else 0, if f.kind = 4 then f.cen else zeroV, if f.kind = 5 then f.mesh else 0, f.sty⟩

def namedNd (n : Nd) : Nd := ⟨namedF n.f, if n.f.kind = 4 then n.far else []⟩

def namedH (h : NH) : NH := if h.f.kind = 4 then ⟨namedF h.f, h.ao, h.n, h.cap⟩ else ⟨namedF h.f, none, 0, 0⟩

def syL (y : Sy) : List Value := [.int .u8 y.s0, .int .u8 y.s1, .int .u8 y.s2, .int .u8 y.s3, .int .u8 y.s4, .int .u8 y.l.r, .int .u8 y.l.g, .int .u8 y.l.b, .int .u8 y.l.a, .int .i64 y.l.tx, .int .u8 y.l.cu, .int .i64 y.l.bi, .bool y.l.bl, .int .i64 y.l.bn]

def mtL (m : Mt) : List Value := [.int .i64 m.m.a.x, .int .i64 m.m.a.y, .int .i64 m.m.a.z, .int .i64 m.m.b.x, .int .i64 m.m.b.y, .int .i64 m.m.b.z, .int .i64 m.m.c.x, .int .i64 m.m.c.y, .int .i64 m.m.c.z, .int .i64 m.t.x, .int .i64 m.t.y, .int .i64 m.t.z]

def v3L (v : V3) : List Value := [.int .i64 v.x, .int .i64 v.y, .int .i64 v.z]

def bareH (k : Int) (y : Sy) : NH := ⟨⟨k, zeroM, 0, zeroV, 0, y⟩, none, 0, 0⟩

theorem namedNd_at {h : NH} {n : Nd} {w : World} (a : NodeAt w h n) : NodeAt w (namedH h) (namedNd n) := by
  have hf := a.f
  unfold namedH namedNd
  rw [← hf]
  split
  · exact ⟨rfl, ⟨a.b.kind |> (by rw [hf]; exact ·), by unfold namedF; rw [hf]; simp only; split; exact a.b.on; exact ⟨by decide, by decide⟩, by rw [hf]; exact a.b.sty⟩, a.le, a.cap, a.nil, a.lay⟩
  · exact ⟨rfl, ⟨by rw [hf]; exact a.b.kind, by unfold namedF; rw [hf]; simp only; split; exact a.b.on; exact ⟨by decide, by decide⟩, by rw [hf]; exact a.b.sty⟩, by simp, by simp, fun _ => ⟨rfl, rfl⟩, Lay.nil⟩

theorem sty_drop (h : NH) : ∀ j v, (syL h.f.sty)[j]? = some v → (fN h)[19 + j]? = some v := by
  intro j v hv
  rw [← List.getElem?_drop]
  exact hv

theorem mt_drop (h : NH) : ∀ j v, (mtL h.f.m)[j]? = some v → (fN h)[1 + j]? = some v := by
  intro j v hv
  have hj : j < 12 := (List.getElem?_eq_some_iff.1 hv).1
  have : ((fN h).drop 1).take 12 = mtL h.f.m := rfl
  rw [← this, List.getElem?_take, if_pos hj, List.getElem?_drop] at hv
  exact hv

theorem v3_drop (h : NH) : ∀ j v, (v3L h.f.cen)[j]? = some v → (fN h)[14 + j]? = some v := by
  intro j v hv
  have hj : j < 3 := (List.getElem?_eq_some_iff.1 hv).1
  have : ((fN h).drop 14).take 3 = v3L h.f.cen := rfl
  rw [← this, List.getElem?_take, if_pos hj, List.getElem?_drop] at hv
  exact hv

theorem mtL_1 (y : Mt) : ∀ u ∈ mtL y, u.oneCell' = true := by
  intro u hu
  simp only [mtL, List.mem_cons, List.not_mem_nil, or_false] at hu
  rcases hu with rfl | rfl | rfl | rfl | rfl | rfl | rfl | rfl | rfl | rfl | rfl | rfl <;> rfl

theorem v3L_1 (y : V3) : ∀ u ∈ v3L y, u.oneCell' = true := by
  intro u hu
  simp only [v3L, List.mem_cons, List.not_mem_nil, or_false] at hu
  rcases hu with rfl | rfl | rfl <;> rfl

theorem built_node (k : Int) (y : Sy) : Tryz.prog.built 56 [(0, .int .u8 k), (6, .agg (syL y).toArray)] = some (fN (bareH k y)).toArray := by kernel_rfl

end

section


open Go.RowKit Go.ChangeShapes Go.WideShapes Go.ChangeAt

set_option linter.unusedSimpArgs false

set_option linter.unusedVariables false

attribute [local go_sem] plus_size plus_drew dn_set dn_alloc dn_plus plus_dn cell_plus frozen_plus set_plus cell_alloc frozen_alloc set_alloc

theorem wpList_build_is {P : Program} {ops : Array Oper} {rest : List Oper} {o : Oper} {a : Act} {w : World} {Q : Exit → Act → World → Prop} (hg : o.guard = none) (t : TypeId) (parts : Array (Nat × Operand)) (ho : o.op = .build t parts) (cs : List Value)
    (hf : P.built t (parts.map fun (i, x) => (i, a.eval x)).toList = some cs.toArray) (h : wpList P ops Q rest (a.put o.dst (.agg cs.toArray)) w) : wpList P ops Q (o :: rest) a w :=
  wpList_build hg t parts ho (by rw [hf]; rfl) (by rw [hf]; exact h)

set_option maxRecDepth 100000 in
set_option maxHeartbeats 2000000 in
theorem named_k0 (kd : Int) (h : NH) (hk : h.f.kind = kd) (n2 : kd ≠ 2) (n3 : kd ≠ 3) (n4 : kd ≠ 4) (n5 : kd ≠ 5) (w : World) : Calls Tryz.prog 49 #[vN h] w fun e w' => e = .returned (vN (namedH h)) ∧ ∃ y, w' = plus w y := by
  show Calls Tryz.prog 49 #[.agg (fN h).toArray] w fun e w' => e = .returned (vN (namedH h)) ∧ ∃ y, w' = plus w y
  rw [show namedH h = bareH kd h.f.sty by simp [namedH, namedF, hk, n2, n3, n4, n5]; rfl]
  have hsty := sty_drop h
  have hmt := mt_drop h
  have hv3 := v3_drop h
  have hkind := kind_at h
  have hfar := far_at h
  have hon : (fN h)[13]? = some (.int .u16 h.f.on) := rfl
  have hme : (fN h)[18]? = some (.int .i64 h.f.mesh) := rfl
  rw [hk] at hkind
  obtain ⟨cs, hcs⟩ : ∃ cs, fN h = cs := ⟨_, rfl⟩
  rw [hcs] at hsty hmt hv3 hkind hfar hon hme ⊢
  have hc : cs.length = 33 := by rw [← hcs]; rfl
  have h1 : ∀ v ∈ cs, v.oneCell' = true := by rw [← hcs]; exact fN_1 h
  obtain ⟨b, hb⟩ : ∃ b, w.heap.size = b := ⟨_, rfl⟩
  clear hcs
  have d2 : (kd == 2) = false := by rw [beq_eq_false_iff_ne]; exact n2
  have d3 : (kd == 3) = false := by rw [beq_eq_false_iff_ne]; exact n3
  have d4 : (kd == 4) = false := by rw [beq_eq_false_iff_ne]; exact n4
  have d5 : (kd == 5) = false := by rw [beq_eq_false_iff_ne]; exact n5
  go_enter Tryz.func49, Tryz.ntmps49
  go_upto_region 1 with fail
  refine name_w (fun w' => (∃ y, w' = plus w y) ∧ w'.heap[b]? = some (.cells cs.toArray 56) ∧ (∃ z : List Value, w'.heap[b + 1]? = some (.cells z.toArray 56) ∧ z.length = 33) ∧ w'.heap.size = b + 2) ⟨sk9, hb ▸ blk_old (blk_new2 _ _), ⟨_, by rw [← hb, ← size_alloc w]; exact blk_new2 _ _, rfl⟩, by rw [size_alloc, size_alloc, hb]⟩ ?_
  try simp only [hb]
  rintro w1 ⟨x1, k1, ⟨z, k2, hz⟩, z1⟩
  have p0 := cell_of k1 hkind
  go_upto_region 2 with (first | (refine wpList_load_part rfl 54 _ rfl b 19 rfl (syL h.f.sty) _ (fun j v hv => cell_of k1 (hsty j v hv)) Tryz.underlying54 rfl (by kernel_rfl) ?_) | (refine wpList_build_is rfl 56 _ rfl (fN (bareH kd h.f.sty)) ?hf ?_; case hf => simp only [List.map_toArray, List.map_cons, List.map_nil]; exact built_node _ _) | (refine wpList_store_box rfl 56 _ _ rfl (b + 2) (fN (bareH kd h.f.sty)) (by simp [go_sem, z1]) rfl _ _ (by rw [← z1]; exact blk_new2 _ _) (by kernel_rfl) (by kernel_rfl) (fN_1 _) ?_))
  refine name_w (fun w' => (∃ y, w' = plus w1 y) ∧ w'.heap[b + 2]? = some (.cells (fN (bareH kd h.f.sty)).toArray 56) ∧ w'.heap.size = b + 3) ⟨ex_row_new sk9 (by omega), by rw [← z1]; exact blk_row_eq (blk_new2 _ _), by rw [setRow_size, size_alloc, z1]⟩ ?_
  rintro w2 ⟨x2, k3, z2⟩
  have q0 := cell_ex x2 p0
  go_upto_region 11 with fail
  refine name_w (fun w' => (∃ y, w' = plus w y) ∧ w'.heap[b + 2]? = some (.cells (fN (bareH kd h.f.sty)).toArray 56) ∧ w'.heap[b + 1]? = some (.cells z.toArray 56)) ⟨ex_trans x1 x2, k3, blk_ex x2 k2⟩ ?_
  rintro w4 ⟨x4, k5, k6⟩
  go_wp2_with (first | (refine wpList_load_row rfl 56 _ rfl (b + 2) rfl _ _ _ _ k5 Tryz.underlying56 rfl (by kernel_rfl) ?_) | (refine wpList_store_box rfl 56 _ _ rfl (b + 1) (fN (bareH kd h.f.sty)) rfl rfl _ _ k6 (by kernel_rfl) (by rw [fN_c]; simpa using hz) (fN_1 _) ?_))
  exact bodyPost_ret (v := vN (bareH kd h.f.sty)) (results_cell_row Tryz.results49 _ _ (b + 1) 56 _ _ _ rfl (blk_row_eq k6) Tryz.underlying56 rfl (by kernel_rfl)) rfl ⟨rfl, ex_row_new x4 (by omega)⟩

set_option maxRecDepth 100000 in
set_option maxHeartbeats 2000000 in
theorem named_k2 (h : NH) (hk : h.f.kind = 2) (w : World) : Calls Tryz.prog 49 #[vN h] w fun e w' => e = .returned (vN (namedH h)) ∧ ∃ y, w' = plus w y := by
  show Calls Tryz.prog 49 #[.agg (fN h).toArray] w fun e w' => e = .returned (vN (namedH h)) ∧ ∃ y, w' = plus w y
  rw [show namedH h = ⟨⟨2, h.f.m, 0, zeroV, 0, h.f.sty⟩, none, 0, 0⟩ by simp [namedH, namedF, hk]]
  have hsty := sty_drop h
  have hmt := mt_drop h
  have hv3 := v3_drop h
  have hkind := kind_at h
  have hfar := far_at h
  have hon : (fN h)[13]? = some (.int .u16 h.f.on) := rfl
  have hme : (fN h)[18]? = some (.int .i64 h.f.mesh) := rfl
  rw [hk] at hkind
  obtain ⟨cs, hcs⟩ : ∃ cs, fN h = cs := ⟨_, rfl⟩
  rw [hcs] at hsty hmt hv3 hkind hfar hon hme ⊢
  have hc : cs.length = 33 := by rw [← hcs]; rfl
  have h1 : ∀ v ∈ cs, v.oneCell' = true := by rw [← hcs]; exact fN_1 h
  obtain ⟨b, hb⟩ : ∃ b, w.heap.size = b := ⟨_, rfl⟩
  clear hcs
  go_enter Tryz.func49, Tryz.ntmps49
  go_upto_region 1 with fail
  refine name_w (fun w' => (∃ y, w' = plus w y) ∧ w'.heap[b]? = some (.cells cs.toArray 56) ∧ (∃ z : List Value, w'.heap[b + 1]? = some (.cells z.toArray 56) ∧ z.length = 33) ∧ w'.heap.size = b + 2) ⟨sk9, hb ▸ blk_old (blk_new2 _ _), ⟨_, by rw [← hb, ← size_alloc w]; exact blk_new2 _ _, rfl⟩, by rw [size_alloc, size_alloc, hb]⟩ ?_
  try simp only [hb]
  rintro w1 ⟨x1, k1, ⟨z, k2, hz⟩, z1⟩
  have p0 := cell_of k1 hkind
  go_upto_region 2 with (first | (refine wpList_load_part rfl 54 _ rfl b 19 rfl (syL h.f.sty) _ (fun j v hv => cell_of k1 (hsty j v hv)) Tryz.underlying54 rfl (by kernel_rfl) ?_) | (refine wpList_build_is rfl 56 _ rfl (fN (bareH 2 h.f.sty)) ?hf ?_; case hf => simp only [List.map_toArray, List.map_cons, List.map_nil]; exact built_node _ _) | (refine wpList_store_box rfl 56 _ _ rfl (b + 2) (fN (bareH 2 h.f.sty)) (by simp [go_sem, z1]) rfl _ _ (by rw [← z1]; exact blk_new2 _ _) (by kernel_rfl) (by kernel_rfl) (fN_1 _) ?_))
  refine name_w (fun w' => (∃ y, w' = plus w1 y) ∧ w'.heap[b + 2]? = some (.cells (fN (bareH 2 h.f.sty)).toArray 56) ∧ w'.heap.size = b + 3) ⟨ex_row_new sk9 (by omega), by rw [← z1]; exact blk_row_eq (blk_new2 _ _), by rw [setRow_size, size_alloc, z1]⟩ ?_
  rintro w2 ⟨x2, k3, z2⟩
  have q0 := cell_ex x2 p0
  go_upto_region 11 with (first | (refine wpList_load_part rfl 45 _ rfl b 1 rfl (mtL h.f.m) _ (fun j v hv => cell_ex x2 (cell_of k1 (hmt j v hv))) Tryz.underlying45 rfl (by kernel_rfl) ?_) | (refine wpList_store_part rfl 45 _ _ rfl (b + 2) 1 (mtL h.f.m) rfl rfl _ _ k3 (by kernel_rfl) (Nat.le_of_ble_eq_true (by kernel_rfl)) (mtL_1 _) ?_))
  refine name_w (fun w' => (∃ y, w' = plus w y) ∧ w'.heap[b + 2]? = some (.cells (fN (⟨⟨2, h.f.m, 0, zeroV, 0, h.f.sty⟩, none, 0, 0⟩)).toArray 56) ∧ w'.heap[b + 1]? = some (.cells z.toArray 56)) ⟨ex_row_new (ex_trans x1 x2) (by omega), blk_row_eq k3, blk_row_far (blk_ex x2 k2) (by omega)⟩ ?_
  rintro w4 ⟨x4, k5, k6⟩
  go_wp2_with (first | (refine wpList_load_row rfl 56 _ rfl (b + 2) rfl _ _ _ _ k5 Tryz.underlying56 rfl (by kernel_rfl) ?_) | (refine wpList_store_box rfl 56 _ _ rfl (b + 1) (fN (⟨⟨2, h.f.m, 0, zeroV, 0, h.f.sty⟩, none, 0, 0⟩)) rfl rfl _ _ k6 (by kernel_rfl) (by rw [fN_c]; simpa using hz) (fN_1 _) ?_))
  exact bodyPost_ret (v := vN (⟨⟨2, h.f.m, 0, zeroV, 0, h.f.sty⟩, none, 0, 0⟩)) (results_cell_row Tryz.results49 _ _ (b + 1) 56 _ _ _ rfl (blk_row_eq k6) Tryz.underlying56 rfl (by kernel_rfl)) rfl ⟨rfl, ex_row_new x4 (by omega)⟩

set_option maxRecDepth 100000 in
set_option maxHeartbeats 2000000 in
theorem named_k3 (h : NH) (hk : h.f.kind = 3) (w : World) : Calls Tryz.prog 49 #[vN h] w fun e w' => e = .returned (vN (namedH h)) ∧ ∃ y, w' = plus w y := by
  show Calls Tryz.prog 49 #[.agg (fN h).toArray] w fun e w' => e = .returned (vN (namedH h)) ∧ ∃ y, w' = plus w y
  rw [show namedH h = ⟨⟨3, zeroM, h.f.on, zeroV, 0, h.f.sty⟩, none, 0, 0⟩ by simp [namedH, namedF, hk]]
  have hsty := sty_drop h
  have hmt := mt_drop h
  have hv3 := v3_drop h
  have hkind := kind_at h
  have hfar := far_at h
  have hon : (fN h)[13]? = some (.int .u16 h.f.on) := rfl
  have hme : (fN h)[18]? = some (.int .i64 h.f.mesh) := rfl
  rw [hk] at hkind
  obtain ⟨cs, hcs⟩ : ∃ cs, fN h = cs := ⟨_, rfl⟩
  rw [hcs] at hsty hmt hv3 hkind hfar hon hme ⊢
  have hc : cs.length = 33 := by rw [← hcs]; rfl
  have h1 : ∀ v ∈ cs, v.oneCell' = true := by rw [← hcs]; exact fN_1 h
  obtain ⟨b, hb⟩ : ∃ b, w.heap.size = b := ⟨_, rfl⟩
  clear hcs
  go_enter Tryz.func49, Tryz.ntmps49
  go_upto_region 1 with fail
  refine name_w (fun w' => (∃ y, w' = plus w y) ∧ w'.heap[b]? = some (.cells cs.toArray 56) ∧ (∃ z : List Value, w'.heap[b + 1]? = some (.cells z.toArray 56) ∧ z.length = 33) ∧ w'.heap.size = b + 2) ⟨sk9, hb ▸ blk_old (blk_new2 _ _), ⟨_, by rw [← hb, ← size_alloc w]; exact blk_new2 _ _, rfl⟩, by rw [size_alloc, size_alloc, hb]⟩ ?_
  try simp only [hb]
  rintro w1 ⟨x1, k1, ⟨z, k2, hz⟩, z1⟩
  have p0 := cell_of k1 hkind
  go_upto_region 2 with (first | (refine wpList_load_part rfl 54 _ rfl b 19 rfl (syL h.f.sty) _ (fun j v hv => cell_of k1 (hsty j v hv)) Tryz.underlying54 rfl (by kernel_rfl) ?_) | (refine wpList_build_is rfl 56 _ rfl (fN (bareH 3 h.f.sty)) ?hf ?_; case hf => simp only [List.map_toArray, List.map_cons, List.map_nil]; exact built_node _ _) | (refine wpList_store_box rfl 56 _ _ rfl (b + 2) (fN (bareH 3 h.f.sty)) (by simp [go_sem, z1]) rfl _ _ (by rw [← z1]; exact blk_new2 _ _) (by kernel_rfl) (by kernel_rfl) (fN_1 _) ?_))
  refine name_w (fun w' => (∃ y, w' = plus w1 y) ∧ w'.heap[b + 2]? = some (.cells (fN (bareH 3 h.f.sty)).toArray 56) ∧ w'.heap.size = b + 3) ⟨ex_row_new sk9 (by omega), by rw [← z1]; exact blk_row_eq (blk_new2 _ _), by rw [setRow_size, size_alloc, z1]⟩ ?_
  rintro w2 ⟨x2, k3, z2⟩
  have q0 := cell_ex x2 p0
  have q1 := cell_ex x2 (cell_of k1 hon)
  have q2 := cell_of (i := 13) k3 rfl
  have q3 := frozen_blk (i := 13) k3
  go_upto_region 11 with fail
  refine name_w (fun w' => (∃ y, w' = plus w y) ∧ w'.heap[b + 2]? = some (.cells (fN (⟨⟨3, zeroM, h.f.on, zeroV, 0, h.f.sty⟩, none, 0, 0⟩)).toArray 56) ∧ w'.heap[b + 1]? = some (.cells z.toArray 56)) ⟨ex_set_new (ex_trans x1 x2) (by omega), by have := blk_set (i := 13) (u := .int .u16 h.f.on) k3; exact this, blk_set_far (blk_ex x2 k2) (by omega)⟩ ?_
  rintro w4 ⟨x4, k5, k6⟩
  go_wp2_with (first | (refine wpList_load_row rfl 56 _ rfl (b + 2) rfl _ _ _ _ k5 Tryz.underlying56 rfl (by kernel_rfl) ?_) | (refine wpList_store_box rfl 56 _ _ rfl (b + 1) (fN (⟨⟨3, zeroM, h.f.on, zeroV, 0, h.f.sty⟩, none, 0, 0⟩)) rfl rfl _ _ k6 (by kernel_rfl) (by rw [fN_c]; simpa using hz) (fN_1 _) ?_))
  exact bodyPost_ret (v := vN (⟨⟨3, zeroM, h.f.on, zeroV, 0, h.f.sty⟩, none, 0, 0⟩)) (results_cell_row Tryz.results49 _ _ (b + 1) 56 _ _ _ rfl (blk_row_eq k6) Tryz.underlying56 rfl (by kernel_rfl)) rfl ⟨rfl, ex_row_new x4 (by omega)⟩

set_option maxRecDepth 100000 in
set_option maxHeartbeats 2000000 in
theorem named_k5 (h : NH) (hk : h.f.kind = 5) (w : World) : Calls Tryz.prog 49 #[vN h] w fun e w' => e = .returned (vN (namedH h)) ∧ ∃ y, w' = plus w y := by
  show Calls Tryz.prog 49 #[.agg (fN h).toArray] w fun e w' => e = .returned (vN (namedH h)) ∧ ∃ y, w' = plus w y
  rw [show namedH h = ⟨⟨5, zeroM, 0, zeroV, h.f.mesh, h.f.sty⟩, none, 0, 0⟩ by simp [namedH, namedF, hk]]
  have hsty := sty_drop h
  have hmt := mt_drop h
  have hv3 := v3_drop h
  have hkind := kind_at h
  have hfar := far_at h
  have hon : (fN h)[13]? = some (.int .u16 h.f.on) := rfl
  have hme : (fN h)[18]? = some (.int .i64 h.f.mesh) := rfl
  rw [hk] at hkind
  obtain ⟨cs, hcs⟩ : ∃ cs, fN h = cs := ⟨_, rfl⟩
  rw [hcs] at hsty hmt hv3 hkind hfar hon hme ⊢
  have hc : cs.length = 33 := by rw [← hcs]; rfl
  have h1 : ∀ v ∈ cs, v.oneCell' = true := by rw [← hcs]; exact fN_1 h
  obtain ⟨b, hb⟩ : ∃ b, w.heap.size = b := ⟨_, rfl⟩
  clear hcs
  go_enter Tryz.func49, Tryz.ntmps49
  go_upto_region 1 with fail
  refine name_w (fun w' => (∃ y, w' = plus w y) ∧ w'.heap[b]? = some (.cells cs.toArray 56) ∧ (∃ z : List Value, w'.heap[b + 1]? = some (.cells z.toArray 56) ∧ z.length = 33) ∧ w'.heap.size = b + 2) ⟨sk9, hb ▸ blk_old (blk_new2 _ _), ⟨_, by rw [← hb, ← size_alloc w]; exact blk_new2 _ _, rfl⟩, by rw [size_alloc, size_alloc, hb]⟩ ?_
  try simp only [hb]
  rintro w1 ⟨x1, k1, ⟨z, k2, hz⟩, z1⟩
  have p0 := cell_of k1 hkind
  go_upto_region 2 with (first | (refine wpList_load_part rfl 54 _ rfl b 19 rfl (syL h.f.sty) _ (fun j v hv => cell_of k1 (hsty j v hv)) Tryz.underlying54 rfl (by kernel_rfl) ?_) | (refine wpList_build_is rfl 56 _ rfl (fN (bareH 5 h.f.sty)) ?hf ?_; case hf => simp only [List.map_toArray, List.map_cons, List.map_nil]; exact built_node _ _) | (refine wpList_store_box rfl 56 _ _ rfl (b + 2) (fN (bareH 5 h.f.sty)) (by simp [go_sem, z1]) rfl _ _ (by rw [← z1]; exact blk_new2 _ _) (by kernel_rfl) (by kernel_rfl) (fN_1 _) ?_))
  refine name_w (fun w' => (∃ y, w' = plus w1 y) ∧ w'.heap[b + 2]? = some (.cells (fN (bareH 5 h.f.sty)).toArray 56) ∧ w'.heap.size = b + 3) ⟨ex_row_new sk9 (by omega), by rw [← z1]; exact blk_row_eq (blk_new2 _ _), by rw [setRow_size, size_alloc, z1]⟩ ?_
  rintro w2 ⟨x2, k3, z2⟩
  have q0 := cell_ex x2 p0
  have q1 := cell_ex x2 (cell_of k1 hme)
  have q2 := cell_of (i := 18) k3 rfl
  have q3 := frozen_blk (i := 18) k3
  go_upto_region 11 with fail
  refine name_w (fun w' => (∃ y, w' = plus w y) ∧ w'.heap[b + 2]? = some (.cells (fN (⟨⟨5, zeroM, 0, zeroV, h.f.mesh, h.f.sty⟩, none, 0, 0⟩)).toArray 56) ∧ w'.heap[b + 1]? = some (.cells z.toArray 56)) ⟨ex_set_new (ex_trans x1 x2) (by omega), by have := blk_set (i := 18) (u := .int .i64 h.f.mesh) k3; exact this, blk_set_far (blk_ex x2 k2) (by omega)⟩ ?_
  rintro w4 ⟨x4, k5, k6⟩
  go_wp2_with (first | (refine wpList_load_row rfl 56 _ rfl (b + 2) rfl _ _ _ _ k5 Tryz.underlying56 rfl (by kernel_rfl) ?_) | (refine wpList_store_box rfl 56 _ _ rfl (b + 1) (fN (⟨⟨5, zeroM, 0, zeroV, h.f.mesh, h.f.sty⟩, none, 0, 0⟩)) rfl rfl _ _ k6 (by kernel_rfl) (by rw [fN_c]; simpa using hz) (fN_1 _) ?_))
  exact bodyPost_ret (v := vN (⟨⟨5, zeroM, 0, zeroV, h.f.mesh, h.f.sty⟩, none, 0, 0⟩)) (results_cell_row Tryz.results49 _ _ (b + 1) 56 _ _ _ rfl (blk_row_eq k6) Tryz.underlying56 rfl (by kernel_rfl)) rfl ⟨rfl, ex_row_new x4 (by omega)⟩

end

section


open Go.RowKit

section

variable {P : Program} {md : Region.Mode} {ops : Array Oper} {Q : Exit → Act → World → Prop}

variable {n : Nat} {S : Nat → List Nat} {Φ : Nat → (Nat → Value) → (Nat → Bool) → World → Prop} {a0 : Act} {w0 : World} {G : (Nat → Bool) → World → (Nat → Bool) → World → Prop}

def dn (L : Array Bool) (j : Nat) : Bool := L.getD j false

def also (D : Nat → Bool) (i : Nat) (j : Nat) : Bool := D j || j == i

def noneYet (_ : Nat) : Bool := false

theorem dn_also {L : Array Bool} {i : Nat} (hi : i < L.size) : dn (L.setIfInBounds i true) = also (dn L) i := by
  funext j
  unfold dn also
  by_cases e : i = j
  · subst e
    simp [hi]
  · have e' : ¬ j = i := fun h => e h.symm
    simp [e, e']

structure RelInv4 (G : (Nat → Bool) → World → (Nat → Bool) → World → Prop) (md : Region.Mode) (ops : Array Oper) (n : Nat) (Φ : Nat → (Nat → Value) → (Nat → Bool) → World → Prop) (a0 : Act) (w0 : World) (L : Array Bool) (a : Act) (w : World) : Prop where
  size : L.size = ops.size
  tsz : a.tmps.size = a0.tmps.size
  dfs : a.defers = a0.defers
  free : ∀ s, (∀ (j : Nat) (o : Oper), ops[j]? = some o → L.getD j false = true → o.dst ≠ some s) → got a s = got a0 s
  grow : G noneYet w0 (dn L) w
  rel : ∀ i, L.getD i false = true → Φ i (got a) (dn L) w
  shut : ∀ i k, L.getD i false = true → Region.waitsFor md ops i k = true → L.getD k false = true
  front : ∀ i, n ≤ i → L.getD i false = false

theorem rel_step4 (hG : ∀ D1 w1 D2 w2 D3 w3, G D1 w1 D2 w2 → G D2 w2 D3 w3 → G D1 w1 D3 w3) (hF : RelFacts2 md ops n S a0.tmps.size) (hmono : ∀ i t t' D w D' w', Φ i t D w → (∀ s ∈ S i, t' s = t s) → G D w D' w' → Φ i t' D' w') {L : Array Bool} {a a' : Act} {w w' : World} {i : Nat} {o : Oper} {v : Value}
    (h : RelInv4 G md ops n Φ a0 w0 L a w) (hi : i ∈ Region.ready md ops L) (hin : i < n) (ho : ops[i]? = some o) (ha : a' = a.put o.dst v) (hw : G (dn L) w (also (dn L) i) w') (hΦ : Φ i (upd (got a) o.dst v) (also (dn L) i) w') :
    RelInv4 G md ops n Φ a0 w0 (L.setIfInBounds i true) a' w' := by
  obtain ⟨hiL, hiS⟩ := getD_false2 (mem_ready.1 hi).1
  rw [← dn_also hiS] at hw hΦ
  have hgp : got a' = upd (got a) o.dst v := by
    rw [ha]
    exact got_put fun s hs => by rw [h.tsz]; exact hF.slot i o ho s hs
  have hS : Shut md ops ops.size L := fun j k _ hj hk => h.shut j k hj hk
  have hset : ∀ j, (L.setIfInBounds i true).getD j false = true → j = i ∨ L.getD j false = true := by
    intro j hj
    by_cases e : i = j
    · exact .inl e.symm
    · exact .inr (getD_unset L i j e hj)
  have hdeep : ∀ j, deepB md ops ops.size 8 j i = true → L.getD j false = true → False := by
    intro j hd hj
    have := deep_listed hS 8 j i (fun k hk => h.shut j k hj hk) hd
    rw [hiL] at this
    cases this
  refine ⟨by rw [Array.size_setIfInBounds]; exact h.size, ?_, ?_, ?_, hG _ _ _ _ _ _ h.grow hw, ?_, ?_, ?_⟩
  · rw [ha, ← h.tsz]
    cases o.dst <;> simp [Act.put]
  · rw [ha, ← h.dfs]
    cases o.dst <;> simp [Act.put]
  · intro s hs
    have h1 : o.dst ≠ some s := hs i o ho (by simp [hiS])
    rw [hgp]
    unfold upd
    rw [if_neg h1]
    exact h.free s fun j oj hj hL => hs j oj hj (getD_set L i j hL)
  · intro j hj
    rcases hset j hj with rfl | hj'
    · rw [hgp]; exact hΦ
    · by_cases e : j = i
      · subst e; rw [hgp]; exact hΦ
      refine hmono j (got a) (got a') _ w _ w' (h.rel j hj') (fun s hs => ?_) hw
      rw [hgp]
      unfold upd
      by_cases hd : o.dst = some s
      · exfalso
        have hjn : j < n := by
          rcases Nat.lt_or_ge j n with h' | h'
          · exact h'
          · rw [h.front j h'] at hj'; cases hj'
        have hjs : j < ops.size := by
          rw [← h.size]
          rcases Nat.lt_or_ge j L.size with h' | h'
          · exact h'
          · simp [Array.getElem?_eq_none h'] at hj'
        exact hdeep j (hF.late j i o s hjn hjs ho hd hs e) hj'
      · rw [if_neg hd]
  · intro j k hj hk
    rcases hset j hj with rfl | hj'
    · exact getD_set L _ k (waits_ready2 hi hk)
    · exact getD_set L i k (h.shut j k hj' hk)
  · intro j hj
    have e : i ≠ j := by omega
    have h1 := h.front j hj
    cases h2 : (L.setIfInBounds i true).getD j false with
    | false => rfl
    | true => rw [getD_unset L i j e h2] at h1; cases h1

def Steps4 (G : (Nat → Bool) → World → (Nat → Bool) → World → Prop) (P : Program) (md : Region.Mode) (ops : Array Oper) (n : Nat) (Φ : Nat → (Nat → Value) → (Nat → Bool) → World → Prop) (a0 : Act) (w0 : World) (Q : Exit → Act → World → Prop) : List Oper → Nat → Prop
  | [], _ => True
  | o :: r, i => (∀ a D w, G noneYet w0 D w → (∀ s, (ops.any fun o => o.dst == some s) = false → got a s = got a0 s) → (∀ j, deepB md ops ops.size 8 i j = true → Φ j (got a) D w) → D i = false →
      o.wp P a w (fun a' w' => ∃ v, a' = a.put o.dst v ∧ G D w (also D i) w' ∧ Φ i (upd (got a) o.dst v) (also D i) w') Q) ∧ Steps4 G P md ops n Φ a0 w0 Q r (i + 1)

theorem steps_at4 : ∀ (l : List Oper) (k : Nat), Steps4 G P md ops n Φ a0 w0 Q l k → ∀ (i : Nat) (o : Oper), l[i]? = some o → ∀ a D w, G noneYet w0 D w → (∀ s, (ops.any fun o => o.dst == some s) = false → got a s = got a0 s) → (∀ j, deepB md ops ops.size 8 (k + i) j = true → Φ j (got a) D w) → D (k + i) = false →
      o.wp P a w (fun a' w' => ∃ v, a' = a.put o.dst v ∧ G D w (also D (k + i)) w' ∧ Φ (k + i) (upd (got a) o.dst v) (also D (k + i)) w') Q
  | [], _, _, i, o, ho => by simp at ho
  | o :: r, k, h, 0, o', ho => by
    simp only [List.getElem?_cons_zero, Option.some.injEq] at ho
    subst ho
    exact h.1
  | o :: r, k, h, i + 1, o', ho => by
    have := steps_at4 r (k + 1) h.2 i o' (by simpa using ho)
    rwa [show k + 1 + i = k + (i + 1) by omega] at this

theorem free_of4 {a : Act} {L : Array Bool} {w : World} (h : RelInv4 G md ops n Φ a0 w0 L a w) : ∀ s, (ops.any fun o => o.dst == some s) = false → got a s = got a0 s := by
  intro s hs
  refine h.free s fun j o ho _ hd => ?_
  have : (ops.any fun o => o.dst == some s) = true := by
    rw [Array.any_eq_true']
    exact ⟨o, Array.mem_of_getElem? ho, by simp [hd]⟩
  rw [hs] at this
  cases this

theorem region_relD {id : Nat} {l : List Oper} (n : Nat) (S : Nat → List Nat) (Φ : Nat → (Nat → Value) → (Nat → Bool) → World → Prop) {a : Act} {w : World} (G : (Nat → Bool) → World → (Nat → Bool) → World → Prop) (hG : ∀ D1 w1 D2 w2 D3 w3, G D1 w1 D2 w2 → G D2 w2 D3 w3 → G D1 w1 D3 w3) (hd : G noneYet w noneYet { w with drawn := w.drawn + 1 }) (hm : P.follows .mixedOrders = true) (hB : relB2 .any l.toArray n S a.tmps.size = true) (hn : n ≤ l.length)
    (hmono : ∀ i t t' D w D' w', Φ i t D w → (∀ s ∈ S i, t' s = t s) → G D w D' w' → Φ i t' D' w')
    (hst : Steps4 G P .any l.toArray n Φ a w Q (l.take n) 0)
    (hend : ∀ t D w', (∀ j, j < n → D j = true) → G noneYet w D w' → (∀ j, j < n → Φ j t D w') → wpList P l.toArray Q (l.drop n) (putAll t (l.take n) a) w') : (Code.region id l.toArray true).wp P Q a w := by
  have hF := relB_facts2 hB
  have hsize : l.toArray.size = l.length := by simp
  have hrest : ∀ t D w', (∀ j, j < n → D j = true) → G noneYet w D w' → (∀ j, j < n → Φ j t D w') → wpOps P l.toArray Q (List.range' n (l.length - n)) (putAll t (l.take n) a) w' := by
    intro t D w' h0 h1 h2
    have h := hend t D w' h0 h1 h2
    have e := wpOps_eq_wpList (P := P) (Q := Q) (ops := l.toArray) (l.drop n) n (fun j => by simp)
    rw [List.length_drop] at e
    rw [e]
    exact h
  refine wp_region_any hm ?_
  refine wpAny_inv (I := fun L a' w' => (L.size = l.length ∧ RelInv4 G .any l.toArray n Φ a w L a' w') ∨ (L.size = l.length ∧ ∃ i, n ≤ i ∧ i ≤ l.length ∧ (∀ j, L.getD j false = decide (j < i)) ∧ wpOps P l.toArray Q (List.range' i (l.length - i)) a' w')) ?_ ?_ _ _ _ _ ?_ ?_
  · have key : ∀ L a' w' i k, L.size = l.length → n ≤ k → k ≤ l.length → (∀ j, L.getD j false = decide (j < k)) → wpOps P l.toArray Q (List.range' k (l.length - k)) a' w' → i ∈ Region.ready .any l.toArray L →
        wpOp P l.toArray Q i (fun a' w' => ((L.setIfInBounds i true).size = l.length ∧ RelInv4 G .any l.toArray n Φ a w (L.setIfInBounds i true) a' w') ∨ ((L.setIfInBounds i true).size = l.length ∧ ∃ k, n ≤ k ∧ k ≤ l.length ∧ (∀ j, (L.setIfInBounds i true).getD j false = decide (j < k)) ∧ wpOps P l.toArray Q (List.range' k (l.length - k)) a' w')) a' w' := by
      intro L a' w' i k hs hnk hkl hL hw hi
      obtain ⟨hiL, o, ho, hall⟩ := mem_ready.1 hi
      obtain ⟨hiL2, hiS⟩ := getD_false2 hiL
      have hik : k ≤ i := by
        rw [hL i] at hiL2
        simpa using hiL2
      obtain rfl : i = k := by
        rcases Nat.eq_or_lt_of_le hik with e | hlt
        · exact e.symm
        · exfalso
          have hd := hF.last i k (by omega) (by simp; omega) hlt
          have hS : Shut .any l.toArray l.toArray.size L := by
            intro p q hp hp2 hq
            rw [hL p] at hp2
            rw [hL q]
            obtain ⟨oj, h1, e, he, hb, hon⟩ := Region.waitsFor_spec hq
            have := hF.back p oj h1 e he hb
            simp at hp2 ⊢
            omega
          have := deep_listed hS 8 i k (fun q hq => waits_ready2 hi hq) hd
          rw [hL k] at this
          simp at this
      have e1 : List.range' i (l.length - i) = i :: List.range' (i + 1) (l.length - (i + 1)) := by
        rw [show l.length - i = (l.length - (i + 1)) + 1 by omega, List.range'_succ]
      rw [e1, wpOps_cons] at hw
      refine wpOp_mono (fun a2 w2 h2 => .inr ⟨by rw [Array.size_setIfInBounds]; exact hs, i + 1, by omega, by omega, fun j => ?_, h2⟩) hw
      by_cases e : i = j
      · subst e
        simp [hiS]
      · have h3 := hL j
        have h4 : (L.setIfInBounds i true).getD j false = L.getD j false := by simp [e]
        rw [h4, h3]
        have : (j < i) ↔ (j < i + 1) := by omega
        simp [this]
    rintro L a' w' i (⟨hs, h⟩ | ⟨hs, k, hnk, hkl, hL, hw⟩) hi
    · by_cases hin : i < n
      · obtain ⟨hiL, o, ho, hall⟩ := mem_ready.1 hi
        have hS : Shut .any l.toArray l.toArray.size L := fun j k _ hj hk => h.shut j k hj hk
        have hdl : ∀ j, deepB .any l.toArray l.toArray.size 8 i j = true → L.getD j false = true := fun j hd => deep_listed hS 8 i j (fun k hk => waits_ready2 hi hk) hd
        unfold wpOp
        simp only [ho]
        have hwt : Region.wanted o (yielded l.toArray a'.tmps) = true := by simp [Region.wanted, hF.guard i o ho]
        rw [if_pos hwt]
        left
        have hol : (l.take n)[i]? = some o := by rw [List.getElem?_take, if_pos hin]; simpa using ho
        have hw := steps_at4 (l.take n) 0 hst i o hol a' (dn L) w' h.grow (free_of4 h) (fun j hd => h.rel j (hdl j (by rwa [Nat.zero_add] at hd))) (by rw [Nat.zero_add]; exact (getD_false2 hiL).1)
        rw [Nat.zero_add] at hw
        exact Oper.wp_mono (fun a2 w2 ⟨v, e1, e2, e3⟩ => .inl ⟨by rw [Array.size_setIfInBounds]; exact hs, rel_step4 hG hF hmono h hi hin ho e1 e2 e3⟩) hw
      · obtain ⟨hiL, o, ho, hall⟩ := mem_ready.1 hi
        have hil : i < l.length := by simpa using (Array.getElem?_eq_some_iff.1 ho).1
        have hS : Shut .any l.toArray l.toArray.size L := fun j k _ hj hk => h.shut j k hj hk
        have hall2 : ∀ j, j < i → L.getD j false = true := fun j hj => deep_listed hS 8 i j (fun k hk => waits_ready2 hi hk) (hF.last i j (by omega) (by simp; omega) hj)
        have hin2 : i = n := by
          rcases Nat.lt_or_ge n i with h1 | h1
          · have h2 := hall2 n h1
            rw [h.front n (Nat.le_refl _)] at h2
            cases h2
          · omega
        subst hin2
        have ha : a' = putAll (got a') (l.take i) a := by
          have hp := putAll_size (got a') (l.take i) a
          refine act_ext (h.tsz.trans hp.1.symm) (h.dfs.trans hp.2.symm) fun s hs => ?_
          rw [putAll_got _ _ _ _ (by rw [← h.tsz]; exact hs)]
          cases hany : (l.take i).any fun o => o.dst == some s with
          | true => simp
          | false =>
            simp only [Bool.false_eq_true, if_false]
            refine h.free s fun j oj hj hL hd => ?_
            have hjn : j < i := by
              rcases Nat.lt_or_ge j i with h' | h'
              · exact h'
              · rw [h.front j h'] at hL; cases hL
            have : ((l.take i).any fun o => o.dst == some s) = true := List.any_eq_true.2 ⟨oj, List.mem_of_getElem? (i := j) (by rw [List.getElem?_take, if_pos hjn]; simpa using hj), by simp [hd]⟩
            rw [hany] at this
            cases this
        have hw := hrest (got a') (dn L) w' hall2 h.grow (fun j hj => h.rel j (hall2 j hj))
        rw [← ha] at hw
        refine key L a' w' i i hs (Nat.le_refl _) (by omega) (fun j => ?_) hw hi
        by_cases hj : j < i
        · rw [hall2 j hj, decide_eq_true hj]
        · rw [h.front j (by omega), decide_eq_false hj]
    · exact key L a' w' i k hs hnk hkl hL hw hi
  · rintro L a' w' (⟨hs, h⟩ | ⟨hs, k, hnk, hkl, hL, hw⟩) hr
    · have hall := all_listed2 hF (by rw [hs, hsize]) hr
      have hnl : l.length = n := by
        rcases Nat.lt_or_ge n l.length with h1 | h1
        · have := hall n (by simpa using h1)
          rw [h.front n (Nat.le_refl _)] at this
          cases this
        · omega
      have ha : a' = putAll (got a') (l.take n) a := by
        have hp := putAll_size (got a') (l.take n) a
        refine act_ext (h.tsz.trans hp.1.symm) (h.dfs.trans hp.2.symm) fun s hs => ?_
        rw [putAll_got _ _ _ _ (by rw [← h.tsz]; exact hs)]
        cases hany : (l.take n).any fun o => o.dst == some s with
        | true => simp
        | false =>
          simp only [Bool.false_eq_true, if_false]
          refine h.free s fun j oj hj hL hd => ?_
          have hjn : j < n := by
            rcases Nat.lt_or_ge j n with h' | h'
            · exact h'
            · rw [h.front j h'] at hL; cases hL
          have : ((l.take n).any fun o => o.dst == some s) = true := List.any_eq_true.2 ⟨oj, List.mem_of_getElem? (i := j) (by rw [List.getElem?_take, if_pos hjn]; simpa using hj), by simp [hd]⟩
          rw [hany] at this
          cases this
      have hw := hrest (got a') (dn L) w' (fun j hj => hall j (by simp; omega)) h.grow (fun j hj => h.rel j (hall j (by simp; omega)))
      rw [← ha, hnl, Nat.sub_self] at hw
      exact hw
    · have hall := all_listed2 (n := n) (S := S) (a0 := a) hF (by rw [hs, hsize]) hr
      obtain rfl : k = l.length := by
        rcases Nat.lt_or_ge k l.length with h1 | h1
        · have := hall k (by simpa using h1)
          rw [hL k] at this
          simp at this
        · omega
      rw [Nat.sub_self] at hw
      exact hw
  · unfold unlisted
    exact Nat.le_trans (List.length_filter_le _ _) (by simp)
  · left
    have hnone : dn (Array.replicate l.toArray.size false) = noneYet := by
      funext j
      unfold dn noneYet
      by_cases hj : j < l.length <;> simp [hj]
    refine ⟨by simp, by simp, rfl, rfl, fun s _ => rfl, by rw [hnone]; exact hd, ?_, ?_, ?_⟩
    · intro i hi
      by_cases hl : i < l.length <;> simp [hl] at hi
    · intro i k hi
      by_cases hl : i < l.length <;> simp [hl] at hi
    · intro i _
      by_cases hl : i < l.length <;> simp [hl]

end

end

section


open Go.RowKit

structure Turn (d : Nat) (gb : Option Nat) (D : Nat → Bool) (w : World) (D' : Nat → Bool) (w' : World) : Prop where
  mono : D d = true → D' d = true
  grow : w.grownBy w' gb
  same : D d = D' d → ∀ k, k < w.heap.size → w'.heap[k]? = w.heap[k]?

section

variable {d : Nat} {gb : Option Nat} {D D' : Nat → Bool} {w w' : World}

theorem turn_trans : ∀ D1 w1 D2 w2 D3 w3, Turn d gb D1 w1 D2 w2 → Turn d gb D2 w2 D3 w3 → Turn d gb D1 w1 D3 w3 := by
  intro D1 w1 D2 w2 D3 w3 h1 h2
  refine ⟨fun h => h2.mono (h1.mono h), ⟨h2.grow.os.trans h1.grow.os, h2.grow.tape.trans h1.grow.tape, h2.grow.output.trans h1.grow.output, Nat.le_trans h1.grow.size h2.grow.size, fun k hk hne => (h2.grow.block k (Nat.lt_of_lt_of_le hk h1.grow.size) hne).trans (h1.grow.block k hk hne)⟩, fun h k hk => ?_⟩
  have e : D1 d = D2 d ∧ D2 d = D3 d := by
    cases e1 : D1 d with
    | true =>
      have e2 := h1.mono e1
      exact ⟨e2.symm, by rw [e2, ← h, e1]⟩
    | false =>
      cases e2 : D2 d with
      | false => exact ⟨rfl, by rw [← h, e1]⟩
      | true =>
        have e3 := h2.mono e2
        rw [← h, e1] at e3
        cases e3
  exact (h2.same e.2 k (Nat.lt_of_lt_of_le hk h1.grow.size)).trans (h1.same e.1 k hk)

theorem turn_draw (w : World) : Turn d gb noneYet w noneYet { w with drawn := w.drawn + 1 } := ⟨id, ⟨rfl, rfl, rfl, Nat.le_refl _, fun _ _ _ => rfl⟩, fun _ _ _ => rfl⟩

theorem also_mono' {i j : Nat} (h : D j = true) : also D i j = true := by simp [also, h]

theorem also_self' (i : Nat) : also D i i = true := by simp [also]

theorem also_ne {i j : Nat} (h : i ≠ j) : also D i j = D j := by
  have h' : ¬ j = i := fun e => h e.symm
  simp [also, h']

theorem turn_grow {i : Nat} (h : ∃ x, w' = plus w x) : Turn d gb D w (also D i) w' := by
  obtain ⟨x, rfl⟩ := h
  have hb := plus_below w x
  exact ⟨also_mono', ⟨hb.os, hb.tape, hb.output, hb.size, fun k hk _ => hb.block k hk⟩, fun _ k hk => hb.block k hk⟩

theorem turn_do (hg : w.grownBy w' gb) (hD : D d = false) : Turn d gb D w (also D d) w' :=
  ⟨also_mono', hg, fun h => by rw [hD, also_self'] at h; cases h⟩

theorem turn_blk {k : Nat} {o : Obj} (h : Turn d gb D w D' w') (hne : some k ≠ gb) (hk : w.heap[k]? = some o) : w'.heap[k]? = some o := by
  rw [h.grow.block k (blk_lt hk) hne]
  exact hk

theorem turn_still {k : Nat} {o : Obj} (h : Turn d gb D w D' w') (hd : D d = D' d) (hk : w.heap[k]? = some o) : w'.heap[k]? = some o := by
  rw [h.same hd k (blk_lt hk)]
  exact hk

theorem turn_ahead (h : Turn d gb noneYet w D w') (hD : D d = false) : ∃ x, w' = plus w x :=
  below_plus ⟨h.grow.os, h.grow.tape, h.grow.output, h.grow.size, fun k hk => h.same (by rw [hD]; rfl) k hk⟩

theorem turn_ex {T : World} (h : Turn d gb D w D' w') (hw : ∃ y, w = plus T y) (hB : ∀ k, gb = some k → T.heap.size ≤ k) : ∃ y, w' = plus T y := by
  obtain ⟨y, rfl⟩ := hw
  apply below_plus
  have hb := plus_below T y
  refine ⟨h.grow.os.trans hb.os, h.grow.tape.trans hb.tape, h.grow.output.trans hb.output, Nat.le_trans hb.size h.grow.size, fun n hn => ?_⟩
  rw [h.grow.block n (Nat.lt_of_lt_of_le hn hb.size) (fun e => by have := hB n e.symm; omega)]
  exact hb.block n hn

end

section

variable {α : Type} {f : α → List Value} {T w w' : World} {ao : Option Addr} {n cap c : Nat} {l : List α} {e : TypeId} {gb : Option Nat}

theorem own_grown (h : Own e c f T w ao n cap l) (hg : w.grownBy w' gb) (hne : ∀ a, ao = some a → some a.block ≠ gb) : Own e c f T w' ao n cap l := by
  refine ⟨h.1, h.2.1, h.2.2.imp id ?_⟩
  rintro ⟨k, cp, cu, a1, a2, a3, a4⟩
  refine ⟨k, cp, cu, a1, a2, ?_, a4⟩
  rw [hg.block k (blk_lt a3) ?_]
  · exact a3
  · simp only [Value.slice.injEq] at a1
    exact hne _ a1.1

theorem own_grown_ty {e' : TypeId} {cur : Array Value} {k : Nat} (h : Own e c f T w ao n cap l) (hg : w.grownBy w' (some k)) (hb : w.heap[k]? = some (.cells cur e')) (hne : e' ≠ e) : Own e c f T w' ao n cap l := by
  refine ⟨h.1, h.2.1, h.2.2.imp id ?_⟩
  rintro ⟨q, cp, cu, a1, a2, a3, a4⟩
  refine ⟨q, cp, cu, a1, a2, ?_, a4⟩
  rw [hg.block q (blk_lt a3) ?_]
  · exact a3
  · intro e0
    cases e0
    rw [hb] at a3
    cases a3
    exact hne rfl

theorem own_turn {d : Nat} {D D' : Nat → Bool} (h : Own e c f T w ao n cap l) (ht : Turn d gb D w D' w') (hD : D d = true) : Own e c f T w' ao n cap l := by
  refine ⟨h.1, h.2.1, h.2.2.imp id ?_⟩
  rintro ⟨k, cp, cu, a1, a2, a3, a4⟩
  refine ⟨k, cp, cu, a1, a2, ?_, a4⟩
  rw [ht.same (by rw [hD, ht.mono hD]) k (blk_lt a3)]
  exact a3

end

end

section


open Go.RowKit

theorem part_step {cur : Array Value} {i : Nat} {v : Value} {rest : List Value} (h : i + (rest.length + 1) ≤ cur.size) : partOf (cur.setIfInBounds i v) (i + 1) rest = partOf cur i (v :: rest) := by
  unfold partOf
  congr 1
  apply List.ext_getElem?
  intro k
  simp only [Array.toList_setIfInBounds, List.getElem?_append, List.length_take, List.length_set, Array.length_toList, List.getElem?_take, List.getElem?_drop, List.getElem?_set, List.length_cons, List.getElem?_cons]
  rw [show min (i + 1) cur.size = i + 1 by omega, show min i cur.size = i by omega]
  by_cases hk : k < i
  · simp [hk, show k < i + 1 by omega, show ¬ i = k by omega]
  · by_cases hk2 : k = i
    · subst hk2
      simp [show k < cur.size by omega]
    · have e1 : ¬ k < i + 1 := by omega
      simp only [hk, e1, if_false]
      by_cases hk3 : k - (i + 1) < rest.length
      · simp [hk3, show k - i - 1 = k - (i + 1) by omega, show k - i < rest.length + 1 by omega, show ¬ k - i = 0 by omega]
      · simp [hk3, show ¬ k - i < rest.length + 1 by omega, show ¬ i = i + 1 + rest.length + (k - (i + 1) - rest.length) by omega]
        congr 1
        omega

theorem fold_part : ∀ (cs : List Value) (i : Nat) (z : Array Value), i + cs.length ≤ z.size → List.foldl (fun (a : Array Value) (x : Value × Nat) => a.setIfInBounds x.snd x.fst) z (cs.zipIdx i) = partOf z i cs
  | [], i, z, _ => by simp [partOf]
  | v :: rest, i, z, h => by
    have h' : i + (rest.length + 1) ≤ z.size := by simpa using h
    rw [List.zipIdx_cons, List.foldl_cons, fold_part rest (i + 1) (z.setIfInBounds i v) (by simp; omega)]
    exact part_step h'

theorem fold_zip (cs : List Value) (z : Array Value) (hz : z.size = cs.length) : List.foldl (fun (a : Array Value) (x : Value × Nat) => a.setIfInBounds x.snd x.fst) z cs.zipIdx = cs.toArray := by
  rw [fold_part cs 0 z (by omega)]
  unfold partOf
  rw [Nat.zero_add, List.drop_eq_nil_of_le (by simp; omega)]
  simp

theorem wp_store_part {P : Program} {o : Oper} {a : Act} {w : World} {K : Act → World → Prop} {Q : Exit → Act → World → Prop} (ty : TypeId) (x y : Operand) (ho : o.op = .store ty x y) (g off : Nat) (cs : List Value) (hx : a.eval x = .pointer (some ⟨g, off, none⟩)) (hy : a.eval y = .agg cs.toArray)
    (t : TypeId) (cur : Array Value) (hg : w.heap[g]? = some (.cells cur t (0, 0))) (hi : (P.info? ty).map (·.size) = some cs.length) (hn : off + cs.length ≤ cur.size) (h1 : ∀ v ∈ cs, v.oneCell' = true)
    (h : K (a.put o.dst undef) (w.setRow g (partOf cur off cs))) : o.wp P a w K Q := by
  unfold Oper.wp execOp
  simp only [ho, hx, hy, Instr.storeAt, Instr.sureAddr, Sem.run_bind, Sem.run_pure, Result.andThen_ok, run_storeVar_part w g off t ty cur cs hg hi hn h1]
  exact h

theorem wp_load_part {P : Program} {o : Oper} {a : Act} {w : World} {K : Act → World → Prop} {Q : Exit → Act → World → Prop} (ty : TypeId) (x : Operand) (ho : o.op = .load ty x) (g off : Nat) (hx : a.eval x = .pointer (some ⟨g, off, none⟩)) (cs : List Value) (d : TypeDesc) (hc : ∀ j v, cs[j]? = some v → w.cell? ⟨g, off + j, none⟩ = some v)
    (hu : P.underlying ty = some d) (hd : (match d with | .struct _ | .array _ _ => true | _ => false) = true) (hi : (P.info? ty).map (·.size) = some cs.length) (h : K (a.put o.dst (.agg cs.toArray)) w) : o.wp P a w K Q := by
  unfold Oper.wp
  rw [exec_load_part ty x ho g off hx cs d hc hu hd hi]
  exact h

end

section


open Go.RowKit Go.ChangeShapes Go.WideShapes Go.ChangeAt

set_option linter.unusedSimpArgs false

set_option linter.unusedVariables false

attribute [local go_sem] plus_size plus_drew dn_set dn_alloc dn_plus plus_dn cell_plus frozen_plus set_plus cell_alloc frozen_alloc set_alloc

theorem row_grown {w : World} {g : Nat} {cs : Array Value} : w.grownBy (w.setRow g cs) (some g) := ⟨rfl, rfl, rfl, by rw [setRow_size]; exact Nat.le_refl _, fun k _ hne => blk_row_ne (fun e => hne (by rw [e]))⟩

def k4S (i : Nat) : List Nat := match i with | 0 => [23] | 1 => [24] | 2 => [25] | 3 => [26] | 4 => [27] | 5 => [] | _ => []

def k4Φ (b : Nat) (cen : V3) (y : Sy) (ao : Option Addr) (n cap : Nat) (gq : Option Nat) (i : Nat) (t : Nat → Value) (D : Nat → Bool) (w' : World) : Prop := match i with
  | 0 => t 23 = .pointer (some ⟨b, 14, none⟩)
  | 1 => t 24 = .agg (v3L cen).toArray
  | 2 => t 25 = .pointer (some ⟨b, 17, none⟩)
  | 3 => t 26 = .slice ao n cap
  | 4 => t 27 = .pointer (some ⟨b + 2, 14, none⟩)
  | 5 => D 5 = true ∧ w'.heap[b + 2]? = some (.cells (fN ⟨⟨4, zeroM, 0, cen, 0, y⟩, none, 0, 0⟩).toArray 56)
  | _ => True

theorem k4Φ_mono (b : Nat) (cen : V3) (y : Sy) (ao : Option Addr) (n cap : Nat) (gq : Option Nat) : ∀ i t t' D w D' w', k4Φ b cen y ao n cap gq i t D w → (∀ s ∈ k4S i, t' s = t s) → Turn 5 gq D w D' w' → k4Φ b cen y ao n cap gq i t' D' w' := by
  intro i t t' D w D' w' h hs' ht
  match i with
  | 0 => exact (hs' 23 (by decide)).trans h
  | 1 => exact (hs' 24 (by decide)).trans h
  | 2 => exact (hs' 25 (by decide)).trans h
  | 3 => exact (hs' 26 (by decide)).trans h
  | 4 => exact (hs' 27 (by decide)).trans h
  | 5 => exact ⟨ht.mono h.1, turn_still ht (by rw [h.1, ht.mono h.1]) h.2⟩
  | i + 6 => trivial

set_option maxRecDepth 100000 in
set_option maxHeartbeats 2000000 in
theorem named_k4 (h : NH) (hk : h.f.kind = 4) (w : World) : Calls Tryz.prog 49 #[vN h] w fun e w' => e = .returned (vN (namedH h)) ∧ ∃ y, w' = plus w y := by
  show Calls Tryz.prog 49 #[.agg (fN h).toArray] w fun e w' => e = .returned (vN (namedH h)) ∧ ∃ y, w' = plus w y
  rw [show namedH h = ⟨⟨4, zeroM, 0, h.f.cen, 0, h.f.sty⟩, h.ao, h.n, h.cap⟩ by simp [namedH, namedF, hk]]
  have hsty := sty_drop h
  have hmt := mt_drop h
  have hv3 := v3_drop h
  have hkind := kind_at h
  have hfar := far_at h
  have hon : (fN h)[13]? = some (.int .u16 h.f.on) := rfl
  have hme : (fN h)[18]? = some (.int .i64 h.f.mesh) := rfl
  rw [hk] at hkind
  obtain ⟨cs, hcs⟩ : ∃ cs, fN h = cs := ⟨_, rfl⟩
  rw [hcs] at hsty hmt hv3 hkind hfar hon hme ⊢
  have hc : cs.length = 33 := by rw [← hcs]; rfl
  have h1 : ∀ v ∈ cs, v.oneCell' = true := by rw [← hcs]; exact fN_1 h
  obtain ⟨b, hb⟩ : ∃ b, w.heap.size = b := ⟨_, rfl⟩
  clear hcs
  go_enter Tryz.func49, Tryz.ntmps49
  go_upto_region 1 with fail
  refine name_w (fun w' => (∃ y, w' = plus w y) ∧ w'.heap[b]? = some (.cells cs.toArray 56) ∧ (∃ z : List Value, w'.heap[b + 1]? = some (.cells z.toArray 56) ∧ z.length = 33) ∧ w'.heap.size = b + 2) ⟨sk9, hb ▸ blk_old (blk_new2 _ _), ⟨_, by rw [← hb, ← size_alloc w]; exact blk_new2 _ _, rfl⟩, by rw [size_alloc, size_alloc, hb]⟩ ?_
  try simp only [hb]
  rintro w1 ⟨x1, k1, ⟨z, k2, hz⟩, z1⟩
  have p0 := cell_of k1 hkind
  go_upto_region 2 with (first | (refine wpList_load_part rfl 54 _ rfl b 19 rfl (syL h.f.sty) _ (fun j v hv => cell_of k1 (hsty j v hv)) Tryz.underlying54 rfl (by kernel_rfl) ?_) | (refine wpList_build_is rfl 56 _ rfl (fN (bareH 4 h.f.sty)) ?hf ?_; case hf => simp only [List.map_toArray, List.map_cons, List.map_nil]; exact built_node _ _) | (refine wpList_store_box rfl 56 _ _ rfl (b + 2) (fN (bareH 4 h.f.sty)) (by simp [go_sem, z1]) rfl _ _ (by rw [← z1]; exact blk_new2 _ _) (by kernel_rfl) (by kernel_rfl) (fN_1 _) ?_))
  refine name_w (fun w' => (∃ y, w' = plus w1 y) ∧ w'.heap[b + 2]? = some (.cells (fN (bareH 4 h.f.sty)).toArray 56) ∧ w'.heap.size = b + 3) ⟨ex_row_new sk9 (by omega), by rw [← z1]; exact blk_row_eq (blk_new2 _ _), by rw [setRow_size, size_alloc, z1]⟩ ?_
  rintro w2 ⟨x2, k3, z2⟩
  have q0 := cell_ex x2 p0
  go_upto_region 8 with fail
  have kb2 := blk_ex x2 k1
  have nbq : (b : Nat) ≠ b + 2 := by omega
  refine region_relD 6 k4S (k4Φ b h.f.cen h.f.sty h.ao h.n h.cap (some (b + 2))) (Turn 5 (some (b + 2))) turn_trans (turn_draw _) (by kernel_rfl) (by kernel_rfl) (by decide) (k4Φ_mono b h.f.cen h.f.sty h.ao h.n h.cap (some (b + 2))) ?steps ?fin
  case steps =>
    refine ⟨?_, ?_, ?_, ?_, ?_, ?_, trivial⟩
    · intro a D w' hg hfree hdeep hD
      have f1_ := hfree 1 (by kernel_rfl)
      simp only [k4Φ, got] at f1_
      simp [go_sem] at f1_
      unfold Oper.wp
      simp [go_sem, execOp, Act.eval, ↓IntWalk.iteOmega, f1_]
      exact ⟨_, rfl, turn_grow (ex_refl _), by simp [k4Φ, upd]⟩
    · intro a D w' hg hfree hdeep hD
      have d0 := hdeep 0 (by kernel_rfl)
      simp only [k4Φ, got] at d0
      simp at d0
      refine wp_load_part 43 _ rfl b 14 (by simp [Act.eval, d0]) (v3L h.f.cen) _ (fun j v hv => cell_of (turn_blk hg (fun e => by cases e) kb2) (hv3 j v hv)) Tryz.underlying43 rfl (by kernel_rfl) ?_
      exact ⟨_, rfl, turn_grow (ex_refl _), by simp [k4Φ, upd]⟩
    · intro a D w' hg hfree hdeep hD
      have f1_ := hfree 1 (by kernel_rfl)
      simp only [k4Φ, got] at f1_
      simp [go_sem] at f1_
      unfold Oper.wp
      simp [go_sem, execOp, Act.eval, ↓IntWalk.iteOmega, f1_]
      exact ⟨_, rfl, turn_grow (ex_refl _), by simp [k4Φ, upd]⟩
    · intro a D w' hg hfree hdeep hD
      have d2 := hdeep 2 (by kernel_rfl)
      simp only [k4Φ, got] at d2
      simp at d2
      have c17 := cell_of (turn_blk hg (fun e => by cases e) kb2) hfar
      unfold Oper.wp
      simp [go_sem, execOp, Act.eval, ↓IntWalk.iteOmega, d2, c17]
      exact ⟨_, rfl, turn_grow (ex_refl _), by simp [k4Φ, upd]⟩
    · intro a D w' hg hfree hdeep hD
      have f3_ := hfree 3 (by kernel_rfl)
      simp only [k4Φ, got] at f3_
      simp [go_sem] at f3_
      unfold Oper.wp
      simp [go_sem, execOp, Act.eval, ↓IntWalk.iteOmega, f3_]
      exact ⟨_, rfl, turn_grow (ex_refl _), by simp [k4Φ, upd]⟩
    · intro a D w' hg hfree hdeep hD
      have d1 := hdeep 1 (by kernel_rfl)
      have d4 := hdeep 4 (by kernel_rfl)
      simp only [k4Φ, got] at d1 d4
      simp at d1 d4
      have kq := turn_still hg hD.symm k3
      refine wp_store_part 43 _ _ rfl (b + 2) 14 (v3L h.f.cen) (by simp [Act.eval, d4]) (by simp [Act.eval, d1]) _ _ kq (by kernel_rfl) (Nat.le_of_ble_eq_true (by kernel_rfl)) (v3L_1 _) ?_
      exact ⟨undef, rfl, turn_do row_grown hD, also_self' _, blk_row_eq kq⟩
  case fin =>
  rintro t D w9 hDa hg hΦ
  have e0 := hΦ 0 (by decide)
  have e1 := hΦ 1 (by decide)
  have e2 := hΦ 2 (by decide)
  have e3 := hΦ 3 (by decide)
  have e4 := hΦ 4 (by decide)
  obtain ⟨_, k5⟩ := hΦ 5 (by decide)
  simp only [k4Φ] at e0 e1 e2 e3 e4
  simp only [putAll, List.take_succ_cons, List.take_zero, List.drop_succ_cons, List.drop_zero, e0, e1, e2, e3, e4]
  simp only [Act.put]
  simp only [List.setIfInBounds_toArray, List.set_cons_succ, List.set_cons_zero]
  clear hΦ e0 e1 e2 e3 e4
  have q17 := cell_of (i := 17) k5 rfl
  have f17 := frozen_blk (i := 17) k5
  have hx9 := turn_ex hg (ex_trans x1 x2) (fun q hq => by cases hq; omega)
  have kz := turn_blk hg (fun e => by cases e) (blk_ex x2 k2)
  go_upto_region 11 with fail
  refine name_w (fun w' => (∃ y, w' = plus w y) ∧ w'.heap[b + 2]? = some (.cells (fN (⟨⟨4, zeroM, 0, h.f.cen, 0, h.f.sty⟩, h.ao, h.n, h.cap⟩)).toArray 56) ∧ w'.heap[b + 1]? = some (.cells z.toArray 56)) ⟨ex_set_new hx9 (by omega), by have := blk_set (i := 17) (u := .slice h.ao h.n h.cap) k5; exact this, blk_set_far kz (by omega)⟩ ?_
  rintro w4 ⟨x4, k5, k6⟩
  go_wp2_with (first | (refine wpList_load_row rfl 56 _ rfl (b + 2) rfl _ _ _ _ k5 Tryz.underlying56 rfl (by kernel_rfl) ?_) | (refine wpList_store_box rfl 56 _ _ rfl (b + 1) (fN (⟨⟨4, zeroM, 0, h.f.cen, 0, h.f.sty⟩, h.ao, h.n, h.cap⟩)) rfl rfl _ _ k6 (by kernel_rfl) (by rw [fN_c]; simpa using hz) (fN_1 _) ?_))
  exact bodyPost_ret (v := vN (⟨⟨4, zeroM, 0, h.f.cen, 0, h.f.sty⟩, h.ao, h.n, h.cap⟩)) (results_cell_row Tryz.results49 _ _ (b + 1) 56 _ _ _ rfl (blk_row_eq k6) Tryz.underlying56 rfl (by kernel_rfl)) rfl ⟨rfl, ex_row_new x4 (by omega)⟩

theorem named_calls (h : NH) (w : World) : Calls Tryz.prog 49 #[vN h] w fun e w' => e = .returned (vN (namedH h)) ∧ ∃ y, w' = plus w y := by
  by_cases h2 : h.f.kind = 2
  · exact named_k2 h h2 w
  by_cases h3 : h.f.kind = 3
  · exact named_k3 h h3 w
  by_cases h4 : h.f.kind = 4
  · exact named_k4 h h4 w
  by_cases h5 : h.f.kind = 5
  · exact named_k5 h h5 w
  exact named_k0 h.f.kind h rfl h2 h3 h4 h5 w

end

section


open Go.RowKit Go.ChangeShapes Go.WideShapes Go.ChangeAt

set_option linter.unusedSimpArgs false

set_option linter.unusedVariables false

attribute [local go_sem] plus_size plus_drew dn_set dn_alloc dn_plus plus_dn cell_plus frozen_plus set_plus cell_alloc frozen_alloc set_alloc

def aheadOf (l : List Int) (k : Nat) : Int := if k = 0 then 0 else nth 0 l (k - 1)

theorem farAt_ahead (l : List Int) (k : Nat) (h : ∀ j, j < k → farAt l j = true) : farAt l k = !(decide (nth 0 l k < aheadOf l k) || decide (8192 < nth 0 l k)) := by
  unfold farAt aheadOf
  by_cases hk : k = 0
  · subst hk
    by_cases h1 : nth 0 l 0 < 0 <;> by_cases h2 : 8192 < nth 0 l 0 <;> simp [h1, h2] <;> omega
  · have hp := h (k - 1) (by omega)
    simp only [farAt, Bool.and_eq_true, decide_eq_true_eq] at hp
    rw [if_neg hk]
    have := hp.1
    by_cases h1 : nth 0 l k < nth 0 l (k - 1) <;> by_cases h2 : 8192 < nth 0 l k <;> simp [h1, h2, hk] <;> omega

set_option maxHeartbeats 2000000 in
theorem far_calls (ao : Option Addr) (n cap : Nat) (l : List Int) (w : World) (hl : Lay fI w ao n l) (hn : n ≤ 9223372036854775807) :
    Calls Tryz.prog 96 #[.slice ao n cap] w fun e w' => e = .returned (.bool (distOk l)) ∧ ∃ y, w' = plus w y := by
  have hlen := hl.len
  by_cases h16 : 16 < n
  · have i16 : (16 : Int) < (n : Int) := by omega
    go_enter Tryz.func96, Tryz.ntmps96
    go_wp2
    go_ret
    exact ⟨by rw [show distOk l = false by simp [distOk]; omega]; rfl, sk9⟩
  have i16 : ¬ (16 : Int) < (n : Int) := by omega
  go_enter Tryz.func96, Tryz.ntmps96
  go_wp2
  go_loopw [11, 3] (fun i a wr => ∃ k : Nat, k ≤ n ∧ i = .int .i64 k ∧ a = .int .i64 (aheadOf l k) ∧ (∀ j, j < k → farAt l j = true) ∧ ∃ y, wr = plus w y) (fun i _ _ => n - (intOf i).toNat)
  case atStart => exact ⟨0, Nat.zero_le _, rfl, rfl, fun j hj => by omega, sk9⟩
  case round =>
    obtain ⟨k, hk, rfl, rfl, hs, y, rfl⟩ := hrel
    by_cases hkl : k < n
    · obtain ⟨g, off, rfl, hg, hcell⟩ := hl.some (by omega)
      have c0 := cellI hlen hcell hkl
      have ik : (k : Int) < (n : Int) := by omega
      have hfa := farAt_ahead l k hs
      obtain ⟨ah, hah⟩ : ∃ a, aheadOf l k = a := ⟨_, rfl⟩
      rw [hah] at hfa ⊢
      by_cases h0 : nth 0 l k < ah
      · have e0 := decide_eq_true h0
        rw [e0] at hfa
        replace hfa := Hush9.mk hfa
        go_wp2
        go_ret
        exact ⟨by rw [dist_bad (k := k) (by omega) (by rw [hfa.it]; rfl)]; rfl, sk9⟩
      have e0 := decide_eq_false h0
      by_cases h1 : 8192 < nth 0 l k
      · have e1 := decide_eq_true h1
        rw [e0, e1] at hfa
        replace hfa := Hush9.mk hfa
        go_wp2
        go_ret
        exact ⟨by rw [dist_bad (k := k) (by omega) (by rw [hfa.it]; rfl)]; rfl, sk9⟩
      have e1 := decide_eq_false h1
      rw [e0, e1] at hfa
      replace hfa := Hush9.mk hfa
      go_wp2
      go_roundw
      case rel => exact ⟨k + 1, by omega, by go_num, rfl, upto_succ9 hs hfa.it, sk9⟩
      case measure => simp [intOf]; omega
    · have ik : ¬ (k : Int) < (n : Int) := by omega
      obtain rfl : n = k := by omega
      have he := dist_all (l := l) (fun j hj => hs j (by omega))
      rw [hlen, decide_eq_true (by omega)] at he
      replace he := Hush9.mk he
      clear hs
      go_wp2
      go_ret
      exact ⟨by rw [he.it]; rfl, sk9⟩

end

end Go.Proofs.YtcekcihijdipoaaGreat
