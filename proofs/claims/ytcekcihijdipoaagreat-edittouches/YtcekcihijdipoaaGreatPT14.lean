/- A pack of texts: Turn, BuildOne, EdNm4, EdLf, St2, St3, St4. -/
import Derived.Laws.EntriesVeiled
import Derived.Test.YtcekcihijdipoaaGreatPT13
import Derived.Test.YtcekcihijdipoaaGreatPT3
import Derived.Test.YtcekcihijdipoaaGreatPT8
import Derived.Test.YtcekcihijdipoaaGreatPT6
import Derived.Test.YtcekcihijdipoaaGreatPT7
import Derived.Test.YtcekcihijdipoaaGreatPT5
namespace Go.Proofs.YtcekcihijdipoaaGreat

section


open Go.RowKit

structure Turn (d : Nat) (gb : Option Nat) (D : Nat → Bool) (w : World) (D' : Nat → Bool) (w' : World) : Prop where
  mono : D d = true → D' d = true
  grow : w.grownBy w' gb
  same : D d = D' d → ∀ k, k < w.heap.size → w'.heap[k]? = w.heap[k]?

section

variable {d : Nat} {gb : Option Nat} {D D' : Nat → Bool} {w w' : World}

theorem turn_trans : ∀ D1 w1 D2 w2 D3 w3, Turn d gb D1 w1 D2 w2 → Turn d gb D2 w2 D3 w3 → Turn d gb D1 w1 D3 w3 := by
  intro D1 w1 D2 w2 D3 w3 h1 h2
  refine ⟨fun h => h2.mono (h1.mono h), ⟨h2.grow.os.trans h1.grow.os, h2.grow.tape.trans h1.grow.tape, h2.grow.output.trans h1.grow.output, Nat.le_trans h1.grow.size h2.grow.size, fun k hk hne => (h2.grow.block k (Nat.lt_of_lt_of_le hk h1.grow.size) hne).trans (h1.grow.block k hk hne)⟩, fun h k hk => ?_⟩
  have e : D1 d = D2 d ∧ D2 d = D3 d := by
    cases e1 : D1 d with
    | true =>
      have e2 := h1.mono e1
      exact ⟨e2.symm, by rw [e2, ← h, e1]⟩
    | false =>
      cases e2 : D2 d with
      | false => exact ⟨rfl, by rw [← h, e1]⟩
      | true =>
        have e3 := h2.mono e2
        rw [← h, e1] at e3
        cases e3
  exact (h2.same e.2 k (Nat.lt_of_lt_of_le hk h1.grow.size)).trans (h1.same e.1 k hk)

theorem turn_draw (w : World) : Turn d gb noneYet w noneYet { w with drawn := w.drawn + 1 } := ⟨id, ⟨rfl, rfl, rfl, Nat.le_refl _, fun _ _ _ => rfl⟩, fun _ _ _ => rfl⟩

theorem also_mono' {i j : Nat} (h : D j = true) : also D i j = true := by simp [also, h]

theorem also_self' (i : Nat) : also D i i = true := by simp [also]

theorem also_ne {i j : Nat} (h : i ≠ j) : also D i j = D j := by
  have h' : ¬ j = i := fun e => h e.symm
  simp [also, h']

theorem turn_grow {i : Nat} (h : ∃ x, w' = plus w x) : Turn d gb D w (also D i) w' := by
  obtain ⟨x, rfl⟩ := h
  have hb := plus_below w x
  exact ⟨also_mono', ⟨hb.os, hb.tape, hb.output, hb.size, fun k hk _ => hb.block k hk⟩, fun _ k hk => hb.block k hk⟩

theorem turn_do (hg : w.grownBy w' gb) (hD : D d = false) : Turn d gb D w (also D d) w' :=
  ⟨also_mono', hg, fun h => by rw [hD, also_self'] at h; cases h⟩

theorem turn_blk {k : Nat} {o : Obj} (h : Turn d gb D w D' w') (hne : some k ≠ gb) (hk : w.heap[k]? = some o) : w'.heap[k]? = some o := by
  rw [h.grow.block k (blk_lt hk) hne]
  exact hk

theorem turn_still {k : Nat} {o : Obj} (h : Turn d gb D w D' w') (hd : D d = D' d) (hk : w.heap[k]? = some o) : w'.heap[k]? = some o := by
  rw [h.same hd k (blk_lt hk)]
  exact hk

theorem turn_ahead (h : Turn d gb noneYet w D w') (hD : D d = false) : ∃ x, w' = plus w x :=
  below_plus ⟨h.grow.os, h.grow.tape, h.grow.output, h.grow.size, fun k hk => h.same (by rw [hD]; rfl) k hk⟩

theorem turn_ex {T : World} (h : Turn d gb D w D' w') (hw : ∃ y, w = plus T y) (hB : ∀ k, gb = some k → T.heap.size ≤ k) : ∃ y, w' = plus T y := by
  obtain ⟨y, rfl⟩ := hw
  apply below_plus
  have hb := plus_below T y
  refine ⟨h.grow.os.trans hb.os, h.grow.tape.trans hb.tape, h.grow.output.trans hb.output, Nat.le_trans hb.size h.grow.size, fun n hn => ?_⟩
  rw [h.grow.block n (Nat.lt_of_lt_of_le hn hb.size) (fun e => by have := hB n e.symm; omega)]
  exact hb.block n hn

end

section

variable {α : Type} {f : α → List Value} {T w w' : World} {ao : Option Addr} {n cap c : Nat} {l : List α} {e : TypeId} {gb : Option Nat}

theorem own_grown (h : Own e c f T w ao n cap l) (hg : w.grownBy w' gb) (hne : ∀ a, ao = some a → some a.block ≠ gb) : Own e c f T w' ao n cap l := by
  refine ⟨h.1, h.2.1, h.2.2.imp id ?_⟩
  rintro ⟨k, cp, cu, a1, a2, a3, a4⟩
  refine ⟨k, cp, cu, a1, a2, ?_, a4⟩
  rw [hg.block k (blk_lt a3) ?_]
  · exact a3
  · simp only [Value.slice.injEq] at a1
    exact hne _ a1.1

theorem own_grown_ty {e' : TypeId} {cur : Array Value} {k : Nat} (h : Own e c f T w ao n cap l) (hg : w.grownBy w' (some k)) (hb : w.heap[k]? = some (.cells cur e')) (hne : e' ≠ e) : Own e c f T w' ao n cap l := by
  refine ⟨h.1, h.2.1, h.2.2.imp id ?_⟩
  rintro ⟨q, cp, cu, a1, a2, a3, a4⟩
  refine ⟨q, cp, cu, a1, a2, ?_, a4⟩
  rw [hg.block q (blk_lt a3) ?_]
  · exact a3
  · intro e0
    cases e0
    rw [hb] at a3
    cases a3
    exact hne rfl

theorem own_turn {d : Nat} {D D' : Nat → Bool} (h : Own e c f T w ao n cap l) (ht : Turn d gb D w D' w') (hD : D d = true) : Own e c f T w' ao n cap l := by
  refine ⟨h.1, h.2.1, h.2.2.imp id ?_⟩
  rintro ⟨k, cp, cu, a1, a2, a3, a4⟩
  refine ⟨k, cp, cu, a1, a2, ?_, a4⟩
  rw [ht.same (by rw [hD, ht.mono hD]) k (blk_lt a3)]
  exact a3

end

end

section


open Go.RowKit

theorem part_step {cur : Array Value} {i : Nat} {v : Value} {rest : List Value} (h : i + (rest.length + 1) ≤ cur.size) : partOf (cur.setIfInBounds i v) (i + 1) rest = partOf cur i (v :: rest) := by
  unfold partOf
  congr 1
  apply List.ext_getElem?
  intro k
  simp only [Array.toList_setIfInBounds, List.getElem?_append, List.length_take, List.length_set, Array.length_toList, List.getElem?_take, List.getElem?_drop, List.getElem?_set, List.length_cons, List.getElem?_cons]
  rw [show min (i + 1) cur.size = i + 1 by omega, show min i cur.size = i by omega]
  by_cases hk : k < i
  · simp [hk, show k < i + 1 by omega, show ¬ i = k by omega]
  · by_cases hk2 : k = i
    · subst hk2
      simp [show k < cur.size by omega]
    · have e1 : ¬ k < i + 1 := by omega
      simp only [hk, e1, if_false]
      by_cases hk3 : k - (i + 1) < rest.length
      · simp [hk3, show k - i - 1 = k - (i + 1) by omega, show k - i < rest.length + 1 by omega, show ¬ k - i = 0 by omega]
      · simp [hk3, show ¬ k - i < rest.length + 1 by omega, show ¬ i = i + 1 + rest.length + (k - (i + 1) - rest.length) by omega]
        congr 1
        omega

theorem fold_part : ∀ (cs : List Value) (i : Nat) (z : Array Value), i + cs.length ≤ z.size → List.foldl (fun (a : Array Value) (x : Value × Nat) => a.setIfInBounds x.snd x.fst) z (cs.zipIdx i) = partOf z i cs
  | [], i, z, _ => by simp [partOf]
  | v :: rest, i, z, h => by
    have h' : i + (rest.length + 1) ≤ z.size := by simpa using h
    rw [List.zipIdx_cons, List.foldl_cons, fold_part rest (i + 1) (z.setIfInBounds i v) (by simp; omega)]
    exact part_step h'

theorem fold_zip (cs : List Value) (z : Array Value) (hz : z.size = cs.length) : List.foldl (fun (a : Array Value) (x : Value × Nat) => a.setIfInBounds x.snd x.fst) z cs.zipIdx = cs.toArray := by
  rw [fold_part cs 0 z (by omega)]
  unfold partOf
  rw [Nat.zero_add, List.drop_eq_nil_of_le (by simp; omega)]
  simp

theorem wp_store_part {P : Program} {o : Oper} {a : Act} {w : World} {K : Act → World → Prop} {Q : Exit → Act → World → Prop} (ty : TypeId) (x y : Operand) (ho : o.op = .store ty x y) (g off : Nat) (cs : List Value) (hx : a.eval x = .pointer (some ⟨g, off, none⟩)) (hy : a.eval y = .agg cs.toArray)
    (t : TypeId) (cur : Array Value) (hg : w.heap[g]? = some (.cells cur t (0, 0))) (hi : (P.info? ty).map (·.size) = some cs.length) (hn : off + cs.length ≤ cur.size) (h1 : ∀ v ∈ cs, v.oneCell' = true)
    (h : K (a.put o.dst undef) (w.setRow g (partOf cur off cs))) : o.wp P a w K Q := by
  unfold Oper.wp execOp
  simp only [ho, hx, hy, Instr.storeAt, Instr.sureAddr, Sem.run_bind, Sem.run_pure, Result.andThen_ok, run_storeVar_part w g off t ty cur cs hg hi hn h1]
  exact h

theorem wp_load_part {P : Program} {o : Oper} {a : Act} {w : World} {K : Act → World → Prop} {Q : Exit → Act → World → Prop} (ty : TypeId) (x : Operand) (ho : o.op = .load ty x) (g off : Nat) (hx : a.eval x = .pointer (some ⟨g, off, none⟩)) (cs : List Value) (d : TypeDesc) (hc : ∀ j v, cs[j]? = some v → w.cell? ⟨g, off + j, none⟩ = some v)
    (hu : P.underlying ty = some d) (hd : (match d with | .struct _ | .array _ _ => true | _ => false) = true) (hi : (P.info? ty).map (·.size) = some cs.length) (h : K (a.put o.dst (.agg cs.toArray)) w) : o.wp P a w K Q := by
  unfold Oper.wp
  rw [exec_load_part ty x ho g off hx cs d hc hu hd hi]
  exact h

end

section


open Go.RowKit Go.ChangeShapes Go.WideShapes Go.ChangeAt

set_option linter.unusedSimpArgs false

set_option linter.unusedVariables false

attribute [local go_sem] plus_size plus_drew dn_set dn_alloc dn_plus plus_dn cell_plus frozen_plus set_plus cell_alloc frozen_alloc set_alloc

theorem row_grown {w : World} {g : Nat} {cs : Array Value} : w.grownBy (w.setRow g cs) (some g) := ⟨rfl, rfl, rfl, by rw [setRow_size]; exact Nat.le_refl _, fun k _ hne => blk_row_ne (fun e => hne (by rw [e]))⟩

def k4S (i : Nat) : List Nat := match i with | 0 => [23] | 1 => [24] | 2 => [25] | 3 => [26] | 4 => [27] | 5 => [] | _ => []

def k4Φ (b : Nat) (cen : V3) (y : Sy) (ao : Option Addr) (n cap : Nat) (gq : Option Nat) (i : Nat) (t : Nat → Value) (D : Nat → Bool) (w' : World) : Prop := match i with
  | 0 => t 23 = .pointer (some ⟨b, 14, none⟩)
  | 1 => t 24 = .agg (v3L cen).toArray
  | 2 => t 25 = .pointer (some ⟨b, 17, none⟩)
  | 3 => t 26 = .slice ao n cap
  | 4 => t 27 = .pointer (some ⟨b + 2, 14, none⟩)
  | 5 => D 5 = true ∧ w'.heap[b + 2]? = some (.cells (fN ⟨⟨4, zeroM, 0, cen, 0, y⟩, none, 0, 0⟩).toArray 56)
  | _ => True

theorem k4Φ_mono (b : Nat) (cen : V3) (y : Sy) (ao : Option Addr) (n cap : Nat) (gq : Option Nat) : ∀ i t t' D w D' w', k4Φ b cen y ao n cap gq i t D w → (∀ s ∈ k4S i, t' s = t s) → Turn 5 gq D w D' w' → k4Φ b cen y ao n cap gq i t' D' w' := by
  intro i t t' D w D' w' h hs' ht
  match i with
  | 0 => exact (hs' 23 (by decide)).trans h
  | 1 => exact (hs' 24 (by decide)).trans h
  | 2 => exact (hs' 25 (by decide)).trans h
  | 3 => exact (hs' 26 (by decide)).trans h
  | 4 => exact (hs' 27 (by decide)).trans h
  | 5 => exact ⟨ht.mono h.1, turn_still ht (by rw [h.1, ht.mono h.1]) h.2⟩
  | i + 6 => trivial

set_option maxRecDepth 100000 in
set_option maxHeartbeats 2000000 in
theorem named_k4 (h : NH) (hk : h.f.kind = 4) (w : World) : Calls Tryz.prog 49 #[vN h] w fun e w' => e = .returned (vN (namedH h)) ∧ ∃ y, w' = plus w y := by
  show Calls Tryz.prog 49 #[.agg (fN h).toArray] w fun e w' => e = .returned (vN (namedH h)) ∧ ∃ y, w' = plus w y
  rw [show namedH h = ⟨⟨4, zeroM, 0, h.f.cen, 0, h.f.sty⟩, h.ao, h.n, h.cap⟩ by simp [namedH, namedF, hk]]
  have hsty := sty_drop h
  have hmt := mt_drop h
  have hv3 := v3_drop h
  have hkind := kind_at h
  have hfar := far_at h
  have hon : (fN h)[13]? = some (.int .u16 h.f.on) := rfl
  have hme : (fN h)[18]? = some (.int .i64 h.f.mesh) := rfl
  rw [hk] at hkind
  obtain ⟨cs, hcs⟩ : ∃ cs, fN h = cs := ⟨_, rfl⟩
  rw [hcs] at hsty hmt hv3 hkind hfar hon hme ⊢
  have hc : cs.length = 33 := by rw [← hcs]; rfl
  have h1 : ∀ v ∈ cs, v.oneCell' = true := by rw [← hcs]; exact fN_1 h
  obtain ⟨b, hb⟩ : ∃ b, w.heap.size = b := ⟨_, rfl⟩
  clear hcs
  go_enter Tryz.func49, Tryz.ntmps49
  go_upto_region 1 with fail
  refine name_w (fun w' => (∃ y, w' = plus w y) ∧ w'.heap[b]? = some (.cells cs.toArray 56) ∧ (∃ z : List Value, w'.heap[b + 1]? = some (.cells z.toArray 56) ∧ z.length = 33) ∧ w'.heap.size = b + 2) ⟨sk9, hb ▸ blk_old (blk_new2 _ _), ⟨_, by rw [← hb, ← size_alloc w]; exact blk_new2 _ _, rfl⟩, by rw [size_alloc, size_alloc, hb]⟩ ?_
  try simp only [hb]
  rintro w1 ⟨x1, k1, ⟨z, k2, hz⟩, z1⟩
  have p0 := cell_of k1 hkind
  go_upto_region 2 with (first | (refine wpList_load_part rfl 54 _ rfl b 19 rfl (syL h.f.sty) _ (fun j v hv => cell_of k1 (hsty j v hv)) Tryz.underlying54 rfl (by kernel_rfl) ?_) | (refine wpList_build_is rfl 56 _ rfl (fN (bareH 4 h.f.sty)) ?hf ?_; case hf => simp only [List.map_toArray, List.map_cons, List.map_nil]; exact built_node _ _) | (refine wpList_store_box rfl 56 _ _ rfl (b + 2) (fN (bareH 4 h.f.sty)) (by simp [go_sem, z1]) rfl _ _ (by rw [← z1]; exact blk_new2 _ _) (by kernel_rfl) (by kernel_rfl) (fN_1 _) ?_))
  refine name_w (fun w' => (∃ y, w' = plus w1 y) ∧ w'.heap[b + 2]? = some (.cells (fN (bareH 4 h.f.sty)).toArray 56) ∧ w'.heap.size = b + 3) ⟨ex_row_new sk9 (by omega), by rw [← z1]; exact blk_row_eq (blk_new2 _ _), by rw [setRow_size, size_alloc, z1]⟩ ?_
  rintro w2 ⟨x2, k3, z2⟩
  have q0 := cell_ex x2 p0
  go_upto_region 8 with fail
  have kb2 := blk_ex x2 k1
  have nbq : (b : Nat) ≠ b + 2 := by omega
  refine region_relD 6 k4S (k4Φ b h.f.cen h.f.sty h.ao h.n h.cap (some (b + 2))) (Turn 5 (some (b + 2))) turn_trans (turn_draw _) (by kernel_rfl) (by kernel_rfl) (by decide) (k4Φ_mono b h.f.cen h.f.sty h.ao h.n h.cap (some (b + 2))) ?steps ?fin
  case steps =>
    refine ⟨?_, ?_, ?_, ?_, ?_, ?_, trivial⟩
    · intro a D w' hg hfree hdeep hD
      have f1_ := hfree 1 (by kernel_rfl)
      simp only [k4Φ, got] at f1_
      simp [go_sem] at f1_
      unfold Oper.wp
      simp [go_sem, execOp, Act.eval, ↓IntWalk.iteOmega, f1_]
      exact ⟨_, rfl, turn_grow (ex_refl _), by simp [k4Φ, upd]⟩
    · intro a D w' hg hfree hdeep hD
      have d0 := hdeep 0 (by kernel_rfl)
      simp only [k4Φ, got] at d0
      simp at d0
      refine wp_load_part 43 _ rfl b 14 (by simp [Act.eval, d0]) (v3L h.f.cen) _ (fun j v hv => cell_of (turn_blk hg (fun e => by cases e) kb2) (hv3 j v hv)) Tryz.underlying43 rfl (by kernel_rfl) ?_
      exact ⟨_, rfl, turn_grow (ex_refl _), by simp [k4Φ, upd]⟩
    · intro a D w' hg hfree hdeep hD
      have f1_ := hfree 1 (by kernel_rfl)
      simp only [k4Φ, got] at f1_
      simp [go_sem] at f1_
      unfold Oper.wp
      simp [go_sem, execOp, Act.eval, ↓IntWalk.iteOmega, f1_]
      exact ⟨_, rfl, turn_grow (ex_refl _), by simp [k4Φ, upd]⟩
    · intro a D w' hg hfree hdeep hD
      have d2 := hdeep 2 (by kernel_rfl)
      simp only [k4Φ, got] at d2
      simp at d2
      have c17 := cell_of (turn_blk hg (fun e => by cases e) kb2) hfar
      unfold Oper.wp
      simp [go_sem, execOp, Act.eval, ↓IntWalk.iteOmega, d2, c17]
      exact ⟨_, rfl, turn_grow (ex_refl _), by simp [k4Φ, upd]⟩
    · intro a D w' hg hfree hdeep hD
      have f3_ := hfree 3 (by kernel_rfl)
      simp only [k4Φ, got] at f3_
      simp [go_sem] at f3_
      unfold Oper.wp
      simp [go_sem, execOp, Act.eval, ↓IntWalk.iteOmega, f3_]
      exact ⟨_, rfl, turn_grow (ex_refl _), by simp [k4Φ, upd]⟩
    · intro a D w' hg hfree hdeep hD
      have d1 := hdeep 1 (by kernel_rfl)
      have d4 := hdeep 4 (by kernel_rfl)
      simp only [k4Φ, got] at d1 d4
      simp at d1 d4
      have kq := turn_still hg hD.symm k3
      refine wp_store_part 43 _ _ rfl (b + 2) 14 (v3L h.f.cen) (by simp [Act.eval, d4]) (by simp [Act.eval, d1]) _ _ kq (by kernel_rfl) (Nat.le_of_ble_eq_true (by kernel_rfl)) (v3L_1 _) ?_
      exact ⟨undef, rfl, turn_do row_grown hD, also_self' _, blk_row_eq kq⟩
  case fin =>
  rintro t D w9 hDa hg hΦ
  have e0 := hΦ 0 (by decide)
  have e1 := hΦ 1 (by decide)
  have e2 := hΦ 2 (by decide)
  have e3 := hΦ 3 (by decide)
  have e4 := hΦ 4 (by decide)
  obtain ⟨_, k5⟩ := hΦ 5 (by decide)
  simp only [k4Φ] at e0 e1 e2 e3 e4
  simp only [putAll, List.take_succ_cons, List.take_zero, List.drop_succ_cons, List.drop_zero, e0, e1, e2, e3, e4]
  simp only [Act.put]
  simp only [List.setIfInBounds_toArray, List.set_cons_succ, List.set_cons_zero]
  clear hΦ e0 e1 e2 e3 e4
  have q17 := cell_of (i := 17) k5 rfl
  have f17 := frozen_blk (i := 17) k5
  have hx9 := turn_ex hg (ex_trans x1 x2) (fun q hq => by cases hq; omega)
  have kz := turn_blk hg (fun e => by cases e) (blk_ex x2 k2)
  go_upto_region 11 with fail
  refine name_w (fun w' => (∃ y, w' = plus w y) ∧ w'.heap[b + 2]? = some (.cells (fN (⟨⟨4, zeroM, 0, h.f.cen, 0, h.f.sty⟩, h.ao, h.n, h.cap⟩)).toArray 56) ∧ w'.heap[b + 1]? = some (.cells z.toArray 56)) ⟨ex_set_new hx9 (by omega), by have := blk_set (i := 17) (u := .slice h.ao h.n h.cap) k5; exact this, blk_set_far kz (by omega)⟩ ?_
  rintro w4 ⟨x4, k5, k6⟩
  go_wp2_with (first | (refine wpList_load_row rfl 56 _ rfl (b + 2) rfl _ _ _ _ k5 Tryz.underlying56 rfl (by kernel_rfl) ?_) | (refine wpList_store_box rfl 56 _ _ rfl (b + 1) (fN (⟨⟨4, zeroM, 0, h.f.cen, 0, h.f.sty⟩, h.ao, h.n, h.cap⟩)) rfl rfl _ _ k6 (by kernel_rfl) (by rw [fN_c]; simpa using hz) (fN_1 _) ?_))
  exact bodyPost_ret (v := vN (⟨⟨4, zeroM, 0, h.f.cen, 0, h.f.sty⟩, h.ao, h.n, h.cap⟩)) (results_cell_row Tryz.results49 _ _ (b + 1) 56 _ _ _ rfl (blk_row_eq k6) Tryz.underlying56 rfl (by kernel_rfl)) rfl ⟨rfl, ex_row_new x4 (by omega)⟩

theorem named_calls (h : NH) (w : World) : Calls Tryz.prog 49 #[vN h] w fun e w' => e = .returned (vN (namedH h)) ∧ ∃ y, w' = plus w y := by
  by_cases h2 : h.f.kind = 2
  · exact named_k2 h h2 w
  by_cases h3 : h.f.kind = 3
  · exact named_k3 h h3 w
  by_cases h4 : h.f.kind = 4
  · exact named_k4 h h4 w
  by_cases h5 : h.f.kind = 5
  · exact named_k5 h h5 w
  exact named_k0 h.f.kind h rfl h2 h3 h4 h5 w

end

section


open Go.RowKit Go.ChangeShapes Go.WideShapes Go.ChangeAt

set_option linter.unusedSimpArgs false

set_option linter.unusedVariables false

attribute [local go_sem] plus_size plus_drew dn_set dn_alloc dn_plus plus_dn cell_plus frozen_plus set_plus cell_alloc frozen_alloc set_alloc

def aheadOf (l : List Int) (k : Nat) : Int := if k = 0 then 0 else nth 0 l (k - 1)

theorem farAt_ahead (l : List Int) (k : Nat) (h : ∀ j, j < k → farAt l j = true) : farAt l k = !(decide (nth 0 l k < aheadOf l k) || decide (8192 < nth 0 l k)) := by
  unfold farAt aheadOf
  by_cases hk : k = 0
  · subst hk
    by_cases h1 : nth 0 l 0 < 0 <;> by_cases h2 : 8192 < nth 0 l 0 <;> simp [h1, h2] <;> omega
  · have hp := h (k - 1) (by omega)
    simp only [farAt, Bool.and_eq_true, decide_eq_true_eq] at hp
    rw [if_neg hk]
    have := hp.1
    by_cases h1 : nth 0 l k < nth 0 l (k - 1) <;> by_cases h2 : 8192 < nth 0 l k <;> simp [h1, h2, hk] <;> omega

set_option maxHeartbeats 2000000 in
theorem far_calls (ao : Option Addr) (n cap : Nat) (l : List Int) (w : World) (hl : Lay fI w ao n l) (hn : n ≤ 9223372036854775807) :
    Calls Tryz.prog 96 #[.slice ao n cap] w fun e w' => e = .returned (.bool (distOk l)) ∧ ∃ y, w' = plus w y := by
  have hlen := hl.len
  by_cases h16 : 16 < n
  · have i16 : (16 : Int) < (n : Int) := by omega
    go_enter Tryz.func96, Tryz.ntmps96
    go_wp2
    go_ret
    exact ⟨by rw [show distOk l = false by simp [distOk]; omega]; rfl, sk9⟩
  have i16 : ¬ (16 : Int) < (n : Int) := by omega
  go_enter Tryz.func96, Tryz.ntmps96
  go_wp2
  go_loopw [11, 3] (fun i a wr => ∃ k : Nat, k ≤ n ∧ i = .int .i64 k ∧ a = .int .i64 (aheadOf l k) ∧ (∀ j, j < k → farAt l j = true) ∧ ∃ y, wr = plus w y) (fun i _ _ => n - (intOf i).toNat)
  case atStart => exact ⟨0, Nat.zero_le _, rfl, rfl, fun j hj => by omega, sk9⟩
  case round =>
    obtain ⟨k, hk, rfl, rfl, hs, y, rfl⟩ := hrel
    by_cases hkl : k < n
    · obtain ⟨g, off, rfl, hg, hcell⟩ := hl.some (by omega)
      have c0 := cellI hlen hcell hkl
      have ik : (k : Int) < (n : Int) := by omega
      have hfa := farAt_ahead l k hs
      obtain ⟨ah, hah⟩ : ∃ a, aheadOf l k = a := ⟨_, rfl⟩
      rw [hah] at hfa ⊢
      by_cases h0 : nth 0 l k < ah
      · have e0 := decide_eq_true h0
        rw [e0] at hfa
        replace hfa := Hush9.mk hfa
        go_wp2
        go_ret
        exact ⟨by rw [dist_bad (k := k) (by omega) (by rw [hfa.it]; rfl)]; rfl, sk9⟩
      have e0 := decide_eq_false h0
      by_cases h1 : 8192 < nth 0 l k
      · have e1 := decide_eq_true h1
        rw [e0, e1] at hfa
        replace hfa := Hush9.mk hfa
        go_wp2
        go_ret
        exact ⟨by rw [dist_bad (k := k) (by omega) (by rw [hfa.it]; rfl)]; rfl, sk9⟩
      have e1 := decide_eq_false h1
      rw [e0, e1] at hfa
      replace hfa := Hush9.mk hfa
      go_wp2
      go_roundw
      case rel => exact ⟨k + 1, by omega, by go_num, rfl, upto_succ9 hs hfa.it, sk9⟩
      case measure => simp [intOf]; omega
    · have ik : ¬ (k : Int) < (n : Int) := by omega
      obtain rfl : n = k := by omega
      have he := dist_all (l := l) (fun j hj => hs j (by omega))
      rw [hlen, decide_eq_true (by omega)] at he
      replace he := Hush9.mk he
      clear hs
      go_wp2
      go_ret
      exact ⟨by rw [he.it]; rfl, sk9⟩

end

section


open Go.RowKit Go.ChangeShapes Go.WideShapes Go.ChangeAt

set_option linter.unusedSimpArgs false

set_option linter.unusedVariables false

attribute [local go_sem] plus_size plus_drew dn_set dn_alloc dn_plus plus_dn cell_plus frozen_plus set_plus cell_alloc frozen_alloc set_alloc

theorem things_calls (w : World) :
    Calls Tryz.prog 175 #[] w fun e w' => e = .returned (.agg #[.func (.func 185) #[] #[], .func (.func 186) #[] #[], .func (.func 187) #[] #[], .func (.func 188) #[] #[], .func (.func 189) #[] #[]]) ∧ Below w.heap.size w w' := by
  go_enter Tryz.func175, Tryz.ntmps175
  go_wp2
  exact bodyPost_ret (v := .agg #[.func (.func 185) #[] #[], .func (.func 186) #[] #[], .func (.func 187) #[] #[], .func (.func 188) #[] #[], .func (.func 189) #[] #[]]) (by simp [results, Tryz.results175, go_sem, ↓IntWalk.iteOmega]) rfl ⟨rfl, skB⟩

theorem withColor_calls (ur ug ub ua ut uc ui : Int) (ul : Bool) (un : Int) (vr vg vb va vt vc vi : Int) (vl : Bool) (vn : Int) (w : World) :
    Calls Tryz.prog 185 #[.agg #[.int .u8 ur, .int .u8 ug, .int .u8 ub, .int .u8 ua, .int .i64 ut, .int .u8 uc, .int .i64 ui, .bool ul, .int .i64 un], .agg #[.int .u8 vr, .int .u8 vg, .int .u8 vb, .int .u8 va, .int .i64 vt, .int .u8 vc, .int .i64 vi, .bool vl, .int .i64 vn]] w fun e w' => e = .returned (.agg #[.int .u8 vr, .int .u8 vg, .int .u8 vb, .int .u8 va, .int .i64 ut, .int .u8 uc, .int .i64 ui, .bool ul, .int .i64 un]) ∧ Below w.heap.size w w' := by
  go_enter Tryz.func185, Tryz.ntmps185
  go_wp2
  exact bodyPost_ret (v := .agg #[.int .u8 vr, .int .u8 vg, .int .u8 vb, .int .u8 va, .int .i64 ut, .int .u8 uc, .int .i64 ui, .bool ul, .int .i64 un]) (by simp [results, Tryz.results185, go_sem, ↓IntWalk.iteOmega]) rfl ⟨rfl, skB⟩

theorem withTexture_calls (ur ug ub ua ut uc ui : Int) (ul : Bool) (un : Int) (vr vg vb va vt vc vi : Int) (vl : Bool) (vn : Int) (w : World) :
    Calls Tryz.prog 186 #[.agg #[.int .u8 ur, .int .u8 ug, .int .u8 ub, .int .u8 ua, .int .i64 ut, .int .u8 uc, .int .i64 ui, .bool ul, .int .i64 un], .agg #[.int .u8 vr, .int .u8 vg, .int .u8 vb, .int .u8 va, .int .i64 vt, .int .u8 vc, .int .i64 vi, .bool vl, .int .i64 vn]] w fun e w' => e = .returned (.agg #[.int .u8 ur, .int .u8 ug, .int .u8 ub, .int .u8 ua, .int .i64 vt, .int .u8 uc, .int .i64 ui, .bool ul, .int .i64 un]) ∧ Below w.heap.size w w' := by
  go_enter Tryz.func186, Tryz.ntmps186
  go_wp2
  exact bodyPost_ret (v := .agg #[.int .u8 ur, .int .u8 ug, .int .u8 ub, .int .u8 ua, .int .i64 vt, .int .u8 uc, .int .i64 ui, .bool ul, .int .i64 un]) (by simp [results, Tryz.results186, go_sem, ↓IntWalk.iteOmega]) rfl ⟨rfl, skB⟩

theorem withCull_calls (ur ug ub ua ut uc ui : Int) (ul : Bool) (un : Int) (vr vg vb va vt vc vi : Int) (vl : Bool) (vn : Int) (w : World) :
    Calls Tryz.prog 187 #[.agg #[.int .u8 ur, .int .u8 ug, .int .u8 ub, .int .u8 ua, .int .i64 ut, .int .u8 uc, .int .i64 ui, .bool ul, .int .i64 un], .agg #[.int .u8 vr, .int .u8 vg, .int .u8 vb, .int .u8 va, .int .i64 vt, .int .u8 vc, .int .i64 vi, .bool vl, .int .i64 vn]] w fun e w' => e = .returned (.agg #[.int .u8 ur, .int .u8 ug, .int .u8 ub, .int .u8 ua, .int .i64 ut, .int .u8 vc, .int .i64 ui, .bool ul, .int .i64 un]) ∧ Below w.heap.size w w' := by
  go_enter Tryz.func187, Tryz.ntmps187
  go_wp2
  exact bodyPost_ret (v := .agg #[.int .u8 ur, .int .u8 ug, .int .u8 ub, .int .u8 ua, .int .i64 ut, .int .u8 vc, .int .i64 ui, .bool ul, .int .i64 un]) (by simp [results, Tryz.results187, go_sem, ↓IntWalk.iteOmega]) rfl ⟨rfl, skB⟩

theorem withBias_calls (ur ug ub ua ut uc ui : Int) (ul : Bool) (un : Int) (vr vg vb va vt vc vi : Int) (vl : Bool) (vn : Int) (w : World) :
    Calls Tryz.prog 188 #[.agg #[.int .u8 ur, .int .u8 ug, .int .u8 ub, .int .u8 ua, .int .i64 ut, .int .u8 uc, .int .i64 ui, .bool ul, .int .i64 un], .agg #[.int .u8 vr, .int .u8 vg, .int .u8 vb, .int .u8 va, .int .i64 vt, .int .u8 vc, .int .i64 vi, .bool vl, .int .i64 vn]] w fun e w' => e = .returned (.agg #[.int .u8 ur, .int .u8 ug, .int .u8 ub, .int .u8 ua, .int .i64 ut, .int .u8 uc, .int .i64 vi, .bool ul, .int .i64 un]) ∧ Below w.heap.size w w' := by
  go_enter Tryz.func188, Tryz.ntmps188
  go_wp2
  exact bodyPost_ret (v := .agg #[.int .u8 ur, .int .u8 ug, .int .u8 ub, .int .u8 ua, .int .i64 ut, .int .u8 uc, .int .i64 vi, .bool ul, .int .i64 un]) (by simp [results, Tryz.results188, go_sem, ↓IntWalk.iteOmega]) rfl ⟨rfl, skB⟩

theorem withBlend_calls (ur ug ub ua ut uc ui : Int) (ul : Bool) (un : Int) (vr vg vb va vt vc vi : Int) (vl : Bool) (vn : Int) (w : World) :
    Calls Tryz.prog 189 #[.agg #[.int .u8 ur, .int .u8 ug, .int .u8 ub, .int .u8 ua, .int .i64 ut, .int .u8 uc, .int .i64 ui, .bool ul, .int .i64 un], .agg #[.int .u8 vr, .int .u8 vg, .int .u8 vb, .int .u8 va, .int .i64 vt, .int .u8 vc, .int .i64 vi, .bool vl, .int .i64 vn]] w fun e w' => e = .returned (.agg #[.int .u8 ur, .int .u8 ug, .int .u8 ub, .int .u8 ua, .int .i64 ut, .int .u8 uc, .int .i64 ui, .bool vl, .int .i64 vn]) ∧ Below w.heap.size w w' := by
  go_enter Tryz.func189, Tryz.ntmps189
  go_wp2
  go_region
  all_goals
    go_wp2
    exact bodyPost_ret (v := .agg #[.int .u8 ur, .int .u8 ug, .int .u8 ub, .int .u8 ua, .int .i64 ut, .int .u8 uc, .int .i64 ui, .bool vl, .int .i64 vn]) (by simp [results, Tryz.results189, go_sem, ↓IntWalk.iteOmega]) rfl ⟨rfl, skB⟩

end

section


open Go.RowKit Go.ChangeShapes Go.WideShapes Go.ChangeAt

set_option linter.unusedSimpArgs false

set_option linter.unusedVariables false

attribute [local go_sem] plus_size plus_drew dn_set dn_alloc dn_plus plus_dn cell_plus frozen_plus set_plus cell_alloc frozen_alloc set_alloc

@[local go_sem] theorem ixf_0 (a b c d e : Value) (w : World) : (Instr.index 223 (.agg #[a, b, c, d, e]) (.int .i64 0)).run Tryz.prog w = .ok a w := by kernel_rfl

@[local go_sem] theorem ixf_1 (a b c d e : Value) (w : World) : (Instr.index 223 (.agg #[a, b, c, d, e]) (.int .i64 1)).run Tryz.prog w = .ok b w := by kernel_rfl

@[local go_sem] theorem ixf_2 (a b c d e : Value) (w : World) : (Instr.index 223 (.agg #[a, b, c, d, e]) (.int .i64 2)).run Tryz.prog w = .ok c w := by kernel_rfl

@[local go_sem] theorem ixf_3 (a b c d e : Value) (w : World) : (Instr.index 223 (.agg #[a, b, c, d, e]) (.int .i64 3)).run Tryz.prog w = .ok d w := by kernel_rfl

@[local go_sem] theorem ixf_4 (a b c d e : Value) (w : World) : (Instr.index 223 (.agg #[a, b, c, d, e]) (.int .i64 4)).run Tryz.prog w = .ok e w := by kernel_rfl

set_option maxRecDepth 100000 in
set_option maxHeartbeats 4000000 in
theorem said_calls (s0 s1 s2 s3 s4 : Int) (vr vg vb va vt vc vi : Int) (vl : Bool) (vn : Int) (w : World) :
    Calls Tryz.prog 146 #[.agg #[.int .u8 s0, .int .u8 s1, .int .u8 s2, .int .u8 s3, .int .u8 s4, .int .u8 vr, .int .u8 vg, .int .u8 vb, .int .u8 va, .int .i64 vt, .int .u8 vc, .int .i64 vi, .bool vl, .int .i64 vn]] w fun e w' => e = .returned (.agg #[.int .u8 ((said ⟨s0, s1, s2, s3, s4, ⟨vr, vg, vb, va, vt, vc, vi, vl, vn⟩⟩)).r, .int .u8 ((said ⟨s0, s1, s2, s3, s4, ⟨vr, vg, vb, va, vt, vc, vi, vl, vn⟩⟩)).g, .int .u8 ((said ⟨s0, s1, s2, s3, s4, ⟨vr, vg, vb, va, vt, vc, vi, vl, vn⟩⟩)).b, .int .u8 ((said ⟨s0, s1, s2, s3, s4, ⟨vr, vg, vb, va, vt, vc, vi, vl, vn⟩⟩)).a, .int .i64 ((said ⟨s0, s1, s2, s3, s4, ⟨vr, vg, vb, va, vt, vc, vi, vl, vn⟩⟩)).tx, .int .u8 ((said ⟨s0, s1, s2, s3, s4, ⟨vr, vg, vb, va, vt, vc, vi, vl, vn⟩⟩)).cu, .int .i64 ((said ⟨s0, s1, s2, s3, s4, ⟨vr, vg, vb, va, vt, vc, vi, vl, vn⟩⟩)).bi, .bool ((said ⟨s0, s1, s2, s3, s4, ⟨vr, vg, vb, va, vt, vc, vi, vl, vn⟩⟩)).bl, .int .i64 ((said ⟨s0, s1, s2, s3, s4, ⟨vr, vg, vb, va, vt, vc, vi, vl, vn⟩⟩)).bn]) ∧ Below w.heap.size w w' := by
  obtain ⟨S, hS⟩ : ∃ S : Sy, S = ⟨s0, s1, s2, s3, s4, ⟨vr, vg, vb, va, vt, vc, vi, vl, vn⟩⟩ := ⟨_, rfl⟩
  rw [← hS]
  go_enter Tryz.func146, Tryz.ntmps146
  go_wp2_with (go_at_call 175; refine (plus_post (things_calls _)).mono ?_; rintro e w' ⟨rfl, nx, rfl⟩)
  go_loopw [7] (fun i wr => ∃ (k : Nat) (kv : Int), k ≤ 5 ∧ kv = k ∧ i = .int .i64 kv ∧ ∃ x, wr = plus (((w.alloc (.cells #[.int .u8 s0, .int .u8 s1, .int .u8 s2, .int .u8 s3, .int .u8 s4, .int .u8 vr, .int .u8 vg, .int .u8 vb, .int .u8 va, .int .i64 vt, .int .u8 vc, .int .i64 vi, .bool vl, .int .i64 vn] 54)).alloc (.cells #[.int .u8 0, .int .u8 0, .int .u8 0, .int .u8 0, .int .i64 0, .int .u8 0, .int .i64 0, .bool false, .int .i64 0] 52)).alloc (.cells #[.int .u8 ((saidTo S k)).r, .int .u8 ((saidTo S k)).g, .int .u8 ((saidTo S k)).b, .int .u8 ((saidTo S k)).a, .int .i64 ((saidTo S k)).tx, .int .u8 ((saidTo S k)).cu, .int .i64 ((saidTo S k)).bi, .bool ((saidTo S k)).bl, .int .i64 ((saidTo S k)).bn] 52)) x) (fun i _ => 5 - (intOf i).toNat)
  case atStart => exact ⟨0, 0, by omega, rfl, rfl, by simp only [saidTo, lk0]; exact sk0⟩
  case round =>
    obtain ⟨k, kv, hk, hkv, rfl, x, rfl⟩ := hrel
    rcases (show k = 0 ∨ k = 1 ∨ k = 2 ∨ k = 3 ∨ k = 4 ∨ k = 5 by omega) with rfl | rfl | rfl | rfl | rfl | rfl
    · obtain rfl : kv = 0 := by omega
      obtain ⟨J, hJ⟩ : ∃ J, saidTo S 0 = J := ⟨_, rfl⟩
      rw [hJ]
      by_cases hs : s0 = 0
      · have e : saidTo S 1 = J := by
          show sd S (saidTo S 0) 0 = J
          rw [hJ, hS]
          simp [sd, t0, hs]
        clear hS hkv hk hJ
        subst hs
        go_wp2
        go_roundw
        case rel => exact ⟨1, 1, by omega, rfl, by go_num, by rw [e]; exact sk0⟩
        case measure => simp [intOf]
      · have e : saidTo S 1 = ⟨vr, vg, vb, va, J.tx, J.cu, J.bi, J.bl, J.bn⟩ := by
          show sd S (saidTo S 0) 0 = _
          rw [hJ, hS]
          simp [sd, t0, hs]
        clear hS hkv hk hJ
        go_wp2_with (first | (go_at_call 185; refine (plus_post (withColor_calls _ _ _ _ _ _ _ _ _ _ _ _ _ _ _ _ _ _ _)).mono ?_; rintro e w' ⟨rfl, nx, rfl⟩) | (go_at_call 186; refine (plus_post (withTexture_calls _ _ _ _ _ _ _ _ _ _ _ _ _ _ _ _ _ _ _)).mono ?_; rintro e w' ⟨rfl, nx, rfl⟩) | (go_at_call 187; refine (plus_post (withCull_calls _ _ _ _ _ _ _ _ _ _ _ _ _ _ _ _ _ _ _)).mono ?_; rintro e w' ⟨rfl, nx, rfl⟩) | (go_at_call 188; refine (plus_post (withBias_calls _ _ _ _ _ _ _ _ _ _ _ _ _ _ _ _ _ _ _)).mono ?_; rintro e w' ⟨rfl, nx, rfl⟩) | (go_at_call 189; refine (plus_post (withBlend_calls _ _ _ _ _ _ _ _ _ _ _ _ _ _ _ _ _ _ _)).mono ?_; rintro e w' ⟨rfl, nx, rfl⟩))
        go_roundw
        case rel => exact ⟨1, 1, by omega, rfl, by go_num, by simp only [e]; exact sk0⟩
        case measure => simp [intOf]
    · obtain rfl : kv = 1 := by omega
      obtain ⟨J, hJ⟩ : ∃ J, saidTo S 1 = J := ⟨_, rfl⟩
      rw [hJ]
      by_cases hs : s1 = 0
      · have e : saidTo S 2 = J := by
          show sd S (saidTo S 1) 1 = J
          rw [hJ, hS]
          simp [sd, t1, hs]
        clear hS hkv hk hJ
        subst hs
        go_wp2
        go_roundw
        case rel => exact ⟨2, 2, by omega, rfl, by go_num, by rw [e]; exact sk0⟩
        case measure => simp [intOf]
      · have e : saidTo S 2 = ⟨J.r, J.g, J.b, J.a, vt, J.cu, J.bi, J.bl, J.bn⟩ := by
          show sd S (saidTo S 1) 1 = _
          rw [hJ, hS]
          simp [sd, t1, hs]
        clear hS hkv hk hJ
        go_wp2_with (first | (go_at_call 185; refine (plus_post (withColor_calls _ _ _ _ _ _ _ _ _ _ _ _ _ _ _ _ _ _ _)).mono ?_; rintro e w' ⟨rfl, nx, rfl⟩) | (go_at_call 186; refine (plus_post (withTexture_calls _ _ _ _ _ _ _ _ _ _ _ _ _ _ _ _ _ _ _)).mono ?_; rintro e w' ⟨rfl, nx, rfl⟩) | (go_at_call 187; refine (plus_post (withCull_calls _ _ _ _ _ _ _ _ _ _ _ _ _ _ _ _ _ _ _)).mono ?_; rintro e w' ⟨rfl, nx, rfl⟩) | (go_at_call 188; refine (plus_post (withBias_calls _ _ _ _ _ _ _ _ _ _ _ _ _ _ _ _ _ _ _)).mono ?_; rintro e w' ⟨rfl, nx, rfl⟩) | (go_at_call 189; refine (plus_post (withBlend_calls _ _ _ _ _ _ _ _ _ _ _ _ _ _ _ _ _ _ _)).mono ?_; rintro e w' ⟨rfl, nx, rfl⟩))
        go_roundw
        case rel => exact ⟨2, 2, by omega, rfl, by go_num, by simp only [e]; exact sk0⟩
        case measure => simp [intOf]
    · obtain rfl : kv = 2 := by omega
      obtain ⟨J, hJ⟩ : ∃ J, saidTo S 2 = J := ⟨_, rfl⟩
      rw [hJ]
      by_cases hs : s2 = 0
      · have e : saidTo S 3 = J := by
          show sd S (saidTo S 2) 2 = J
          rw [hJ, hS]
          simp [sd, t2, hs]
        clear hS hkv hk hJ
        subst hs
        go_wp2
        go_roundw
        case rel => exact ⟨3, 3, by omega, rfl, by go_num, by rw [e]; exact sk0⟩
        case measure => simp [intOf]
      · have e : saidTo S 3 = ⟨J.r, J.g, J.b, J.a, J.tx, vc, J.bi, J.bl, J.bn⟩ := by
          show sd S (saidTo S 2) 2 = _
          rw [hJ, hS]
          simp [sd, t2, hs]
        clear hS hkv hk hJ
        go_wp2_with (first | (go_at_call 185; refine (plus_post (withColor_calls _ _ _ _ _ _ _ _ _ _ _ _ _ _ _ _ _ _ _)).mono ?_; rintro e w' ⟨rfl, nx, rfl⟩) | (go_at_call 186; refine (plus_post (withTexture_calls _ _ _ _ _ _ _ _ _ _ _ _ _ _ _ _ _ _ _)).mono ?_; rintro e w' ⟨rfl, nx, rfl⟩) | (go_at_call 187; refine (plus_post (withCull_calls _ _ _ _ _ _ _ _ _ _ _ _ _ _ _ _ _ _ _)).mono ?_; rintro e w' ⟨rfl, nx, rfl⟩) | (go_at_call 188; refine (plus_post (withBias_calls _ _ _ _ _ _ _ _ _ _ _ _ _ _ _ _ _ _ _)).mono ?_; rintro e w' ⟨rfl, nx, rfl⟩) | (go_at_call 189; refine (plus_post (withBlend_calls _ _ _ _ _ _ _ _ _ _ _ _ _ _ _ _ _ _ _)).mono ?_; rintro e w' ⟨rfl, nx, rfl⟩))
        go_roundw
        case rel => exact ⟨3, 3, by omega, rfl, by go_num, by simp only [e]; exact sk0⟩
        case measure => simp [intOf]
    · obtain rfl : kv = 3 := by omega
      obtain ⟨J, hJ⟩ : ∃ J, saidTo S 3 = J := ⟨_, rfl⟩
      rw [hJ]
      by_cases hs : s3 = 0
      · have e : saidTo S 4 = J := by
          show sd S (saidTo S 3) 3 = J
          rw [hJ, hS]
          simp [sd, t3, hs]
        clear hS hkv hk hJ
        subst hs
        go_wp2
        go_roundw
        case rel => exact ⟨4, 4, by omega, rfl, by go_num, by rw [e]; exact sk0⟩
        case measure => simp [intOf]
      · have e : saidTo S 4 = ⟨J.r, J.g, J.b, J.a, J.tx, J.cu, vi, J.bl, J.bn⟩ := by
          show sd S (saidTo S 3) 3 = _
          rw [hJ, hS]
          simp [sd, t3, hs]
        clear hS hkv hk hJ
        go_wp2_with (first | (go_at_call 185; refine (plus_post (withColor_calls _ _ _ _ _ _ _ _ _ _ _ _ _ _ _ _ _ _ _)).mono ?_; rintro e w' ⟨rfl, nx, rfl⟩) | (go_at_call 186; refine (plus_post (withTexture_calls _ _ _ _ _ _ _ _ _ _ _ _ _ _ _ _ _ _ _)).mono ?_; rintro e w' ⟨rfl, nx, rfl⟩) | (go_at_call 187; refine (plus_post (withCull_calls _ _ _ _ _ _ _ _ _ _ _ _ _ _ _ _ _ _ _)).mono ?_; rintro e w' ⟨rfl, nx, rfl⟩) | (go_at_call 188; refine (plus_post (withBias_calls _ _ _ _ _ _ _ _ _ _ _ _ _ _ _ _ _ _ _)).mono ?_; rintro e w' ⟨rfl, nx, rfl⟩) | (go_at_call 189; refine (plus_post (withBlend_calls _ _ _ _ _ _ _ _ _ _ _ _ _ _ _ _ _ _ _)).mono ?_; rintro e w' ⟨rfl, nx, rfl⟩))
        go_roundw
        case rel => exact ⟨4, 4, by omega, rfl, by go_num, by simp only [e]; exact sk0⟩
        case measure => simp [intOf]
    · obtain rfl : kv = 4 := by omega
      obtain ⟨J, hJ⟩ : ∃ J, saidTo S 4 = J := ⟨_, rfl⟩
      rw [hJ]
      by_cases hs : s4 = 0
      · have e : saidTo S 5 = J := by
          show sd S (saidTo S 4) 4 = J
          rw [hJ, hS]
          simp [sd, t4, hs]
        clear hS hkv hk hJ
        subst hs
        go_wp2
        go_roundw
        case rel => exact ⟨5, 5, by omega, rfl, by go_num, by rw [e]; exact sk0⟩
        case measure => simp [intOf]
      · have e : saidTo S 5 = ⟨J.r, J.g, J.b, J.a, J.tx, J.cu, J.bi, vl, vn⟩ := by
          show sd S (saidTo S 4) 4 = _
          rw [hJ, hS]
          simp [sd, t4, hs]
        clear hS hkv hk hJ
        go_wp2_with (first | (go_at_call 185; refine (plus_post (withColor_calls _ _ _ _ _ _ _ _ _ _ _ _ _ _ _ _ _ _ _)).mono ?_; rintro e w' ⟨rfl, nx, rfl⟩) | (go_at_call 186; refine (plus_post (withTexture_calls _ _ _ _ _ _ _ _ _ _ _ _ _ _ _ _ _ _ _)).mono ?_; rintro e w' ⟨rfl, nx, rfl⟩) | (go_at_call 187; refine (plus_post (withCull_calls _ _ _ _ _ _ _ _ _ _ _ _ _ _ _ _ _ _ _)).mono ?_; rintro e w' ⟨rfl, nx, rfl⟩) | (go_at_call 188; refine (plus_post (withBias_calls _ _ _ _ _ _ _ _ _ _ _ _ _ _ _ _ _ _ _)).mono ?_; rintro e w' ⟨rfl, nx, rfl⟩) | (go_at_call 189; refine (plus_post (withBlend_calls _ _ _ _ _ _ _ _ _ _ _ _ _ _ _ _ _ _ _)).mono ?_; rintro e w' ⟨rfl, nx, rfl⟩))
        go_roundw
        case rel => exact ⟨5, 5, by omega, rfl, by go_num, by simp only [e]; exact sk0⟩
        case measure => simp [intOf]
    · obtain rfl : kv = 5 := by omega
      clear hS hkv hk
      rw [show saidTo S 5 = said S from rfl]
      go_wp2
      exact bodyPost_ret (v := .agg #[.int .u8 ((said S)).r, .int .u8 ((said S)).g, .int .u8 ((said S)).b, .int .u8 ((said S)).a, .int .i64 ((said S)).tx, .int .u8 ((said S)).cu, .int .i64 ((said S)).bi, .bool ((said S)).bl, .int .i64 ((said S)).bn]) (by simp [results, Tryz.results146, go_sem, ↓IntWalk.iteOmega]) rfl ⟨by rfl, skB⟩

end

section


open Go.RowKit Go.ChangeShapes Go.WideShapes Go.ChangeAt

set_option linter.unusedSimpArgs false

set_option linter.unusedVariables false

attribute [local go_sem] plus_size plus_drew dn_set dn_alloc dn_plus plus_dn cell_plus frozen_plus set_plus cell_alloc frozen_alloc set_alloc

attribute [local go_sem] eq4_refl eq5_refl

attribute [local go_sem] col_49

attribute [local go_sem] col_50

attribute [local go_sem] col9_49

attribute [local go_sem] col9_50

attribute [local go_sem] col8_49

attribute [local go_sem] col8_50

attribute [local go_sem] larr_48

@[local go_sem] theorem ixs_0 (a b c d e : Value) (w : World) : (Instr.index 48 (.agg #[a, b, c, d, e]) (.int .i64 0)).run Tryz.prog w = .ok a w := by kernel_rfl

@[local go_sem] theorem ixs_1 (a b c d e : Value) (w : World) : (Instr.index 48 (.agg #[a, b, c, d, e]) (.int .i64 1)).run Tryz.prog w = .ok b w := by kernel_rfl

@[local go_sem] theorem ixs_2 (a b c d e : Value) (w : World) : (Instr.index 48 (.agg #[a, b, c, d, e]) (.int .i64 2)).run Tryz.prog w = .ok c w := by kernel_rfl

@[local go_sem] theorem ixs_3 (a b c d e : Value) (w : World) : (Instr.index 48 (.agg #[a, b, c, d, e]) (.int .i64 3)).run Tryz.prog w = .ok d w := by kernel_rfl

@[local go_sem] theorem ixs_4 (a b c d e : Value) (w : World) : (Instr.index 48 (.agg #[a, b, c, d, e]) (.int .i64 4)).run Tryz.prog w = .ok e w := by kernel_rfl

set_option maxHeartbeats 4000000 in
theorem sty_calls (s0 s1 s2 s3 s4 : Int) (vr vg vb va vt vc vi : Int) (vl : Bool) (vn : Int) (hB : SyB ⟨s0, s1, s2, s3, s4, ⟨vr, vg, vb, va, vt, vc, vi, vl, vn⟩⟩) (w : World) :
    Calls Tryz.prog 92 #[.agg #[.int .u8 s0, .int .u8 s1, .int .u8 s2, .int .u8 s3, .int .u8 s4, .int .u8 vr, .int .u8 vg, .int .u8 vb, .int .u8 va, .int .i64 vt, .int .u8 vc, .int .i64 vi, .bool vl, .int .i64 vn]] w fun e w' => e = .returned (.int .i64 (styErr ⟨s0, s1, s2, s3, s4, ⟨vr, vg, vb, va, vt, vc, vi, vl, vn⟩⟩)) ∧ Below w.heap.size w w' := by
  obtain ⟨b0, b1, b2, b3, b4, _⟩ := hB
  simp only at b0 b1 b2 b3 b4
  cases r0 : sayOk s0
  · rw [show styErr ⟨s0, s1, s2, s3, s4, ⟨vr, vg, vb, va, vt, vc, vi, vl, vn⟩⟩ = 8 by simp [styErr, styOk, saysOk, r0]]
    go_enter Tryz.func92, Tryz.ntmps92
    go_wp2
    refine wp_loop_rounds 6 ?_
    repeat any_goals (rw [rounds_succ]; go_wp2_with (go_at_call 144; refine (plus_post (say_calls _ (by assumption) _)).mono ?_; rintro e w' ⟨rfl, nx, rfl⟩))
    go_ret
    exact ⟨rfl, skB⟩
  cases r1 : sayOk s1
  · rw [show styErr ⟨s0, s1, s2, s3, s4, ⟨vr, vg, vb, va, vt, vc, vi, vl, vn⟩⟩ = 8 by simp [styErr, styOk, saysOk, r1]]
    go_enter Tryz.func92, Tryz.ntmps92
    go_wp2
    refine wp_loop_rounds 6 ?_
    repeat any_goals (rw [rounds_succ]; go_wp2_with (go_at_call 144; refine (plus_post (say_calls _ (by assumption) _)).mono ?_; rintro e w' ⟨rfl, nx, rfl⟩))
    go_ret
    exact ⟨rfl, skB⟩
  cases r2 : sayOk s2
  · rw [show styErr ⟨s0, s1, s2, s3, s4, ⟨vr, vg, vb, va, vt, vc, vi, vl, vn⟩⟩ = 8 by simp [styErr, styOk, saysOk, r2]]
    go_enter Tryz.func92, Tryz.ntmps92
    go_wp2
    refine wp_loop_rounds 6 ?_
    repeat any_goals (rw [rounds_succ]; go_wp2_with (go_at_call 144; refine (plus_post (say_calls _ (by assumption) _)).mono ?_; rintro e w' ⟨rfl, nx, rfl⟩))
    go_ret
    exact ⟨rfl, skB⟩
  cases r3 : sayOk s3
  · rw [show styErr ⟨s0, s1, s2, s3, s4, ⟨vr, vg, vb, va, vt, vc, vi, vl, vn⟩⟩ = 8 by simp [styErr, styOk, saysOk, r3]]
    go_enter Tryz.func92, Tryz.ntmps92
    go_wp2
    refine wp_loop_rounds 6 ?_
    repeat any_goals (rw [rounds_succ]; go_wp2_with (go_at_call 144; refine (plus_post (say_calls _ (by assumption) _)).mono ?_; rintro e w' ⟨rfl, nx, rfl⟩))
    go_ret
    exact ⟨rfl, skB⟩
  cases r4 : sayOk s4
  · rw [show styErr ⟨s0, s1, s2, s3, s4, ⟨vr, vg, vb, va, vt, vc, vi, vl, vn⟩⟩ = 8 by simp [styErr, styOk, saysOk, r4]]
    go_enter Tryz.func92, Tryz.ntmps92
    go_wp2
    refine wp_loop_rounds 6 ?_
    repeat any_goals (rw [rounds_succ]; go_wp2_with (go_at_call 144; refine (plus_post (say_calls _ (by assumption) _)).mono ?_; rintro e w' ⟨rfl, nx, rfl⟩))
    go_ret
    exact ⟨rfl, skB⟩
  cases hL : lookOk ⟨vr, vg, vb, va, vt, vc, vi, vl, vn⟩
  · have e1 : lookErr ⟨vr, vg, vb, va, vt, vc, vi, vl, vn⟩ = 8 := by rw [lookErr, hL]; rfl
    rw [show styErr ⟨s0, s1, s2, s3, s4, ⟨vr, vg, vb, va, vt, vc, vi, vl, vn⟩⟩ = 8 by simp [styErr, styOk, hL]]
    clear hL
    go_enter Tryz.func92, Tryz.ntmps92
    go_wp2
    refine wp_loop_rounds 6 ?_
    repeat any_goals (rw [rounds_succ]; go_wp2_with (go_at_call 144; refine (plus_post (say_calls _ (by assumption) _)).mono ?_; rintro e w' ⟨rfl, nx, rfl⟩))
    refine region_plus (by kernel_rfl) (by kernel_rfl) ?_
    (repeat (go_big_quiet_step ((first | (go_at_call 145; exact plus_of (look_calls _ _ _ _ _ _ _ _ _ _)) | (go_at_call 146; exact plus_of (said_calls _ _ _ _ _ _ _ _ _ _ _ _ _ _ _))))))
    refine wpQuiet_nil ?_
    rintro _ ⟨x2, rfl⟩
    go_wp2
    go_ret
    exact ⟨rfl, skB⟩
  have e1 : lookErr ⟨vr, vg, vb, va, vt, vc, vi, vl, vn⟩ = 0 := by rw [lookErr, hL]; rfl
  obtain ⟨J, hJ⟩ : ∃ J, said ⟨s0, s1, s2, s3, s4, ⟨vr, vg, vb, va, vt, vc, vi, vl, vn⟩⟩ = J := ⟨_, rfl⟩
  have e3 : styErr ⟨s0, s1, s2, s3, s4, ⟨vr, vg, vb, va, vt, vc, vi, vl, vn⟩⟩ = if eqL J ⟨vr, vg, vb, va, vt, vc, vi, vl, vn⟩ then 0 else 8 := by simp [styErr, styOk, saysOk, r0, r1, r2, r3, r4, hL, hJ]
  rw [e3]
  clear e3 hL
  cases hq : eqL J ⟨vr, vg, vb, va, vt, vc, vi, vl, vn⟩
  · rcases eqL_no hq with h1 | ⟨h1, h2 | ⟨h2, h3 | ⟨h3, h4 | ⟨h4, h5 | ⟨h5, h6⟩⟩⟩⟩⟩
    all_goals
      clear hq
      simp only at h1
      try simp only at h2
      try simp only at h3
      try simp only at h4
      try simp only at h5
      try simp only at h6
      go_enter Tryz.func92, Tryz.ntmps92
      go_wp2
      refine wp_loop_rounds 6 ?_
      repeat any_goals (rw [rounds_succ]; go_wp2_with (go_at_call 144; refine (plus_post (say_calls _ (by assumption) _)).mono ?_; rintro e w' ⟨rfl, nx, rfl⟩))
      refine region_plus (by kernel_rfl) (by kernel_rfl) ?_
      (repeat (go_big_quiet_step ((first | (go_at_call 145; exact plus_of (look_calls _ _ _ _ _ _ _ _ _ _)) | (go_at_call 146; exact plus_of (said_calls _ _ _ _ _ _ _ _ _ _ _ _ _ _ _))))))
      refine wpQuiet_nil ?_
      rintro _ ⟨x2, rfl⟩
      go_wp2
      go_ret
      exact ⟨rfl, skB⟩
  · obtain rfl := eqL_iff.1 hq
    clear hq
    go_enter Tryz.func92, Tryz.ntmps92
    go_wp2
    refine wp_loop_rounds 6 ?_
    repeat any_goals (rw [rounds_succ]; go_wp2_with (go_at_call 144; refine (plus_post (say_calls _ (by assumption) _)).mono ?_; rintro e w' ⟨rfl, nx, rfl⟩))
    refine region_plus (by kernel_rfl) (by kernel_rfl) ?_
    (repeat (go_big_quiet_step ((first | (go_at_call 145; exact plus_of (look_calls _ _ _ _ _ _ _ _ _ _)) | (go_at_call 146; exact plus_of (said_calls _ _ _ _ _ _ _ _ _ _ _ _ _ _ _))))))
    refine wpQuiet_nil ?_
    rintro _ ⟨x2, rfl⟩
    go_wp2
    go_ret
    exact ⟨rfl, skB⟩

end

end Go.Proofs.YtcekcihijdipoaaGreat
