/- A pack of texts: StorePart, EdBox, Mesh5, Mesh13, Mesh15, Open3, Open4, Ed6. -/
import Derived.Laws.Tables
import Derived.Deep.DeepCutAuto
import Derived.SizedLaws
import Derived.Test.YtcekcihijdipoaaGreatPT7
import Derived.Test.YtcekcihijdipoaaGreatPT3
import Derived.Test.YtcekcihijdipoaaGreatPT4
import Derived.Test.YtcekcihijdipoaaGreatPT6
import Derived.Test.YtcekcihijdipoaaGreatPT1
namespace Go.Proofs.YtcekcihijdipoaaGreat

section


open Go.RowKit

set_option linter.unusedVariables false

section

variable {P : Program}

def partOf (cur : Array Value) (i : Nat) (vs : List Value) : Array Value := (cur.toList.take i ++ (vs ++ cur.toList.drop (i + vs.length))).toArray

theorem partOf_size {cur : Array Value} {i : Nat} {vs : List Value} (h : i + vs.length ≤ cur.size) : (partOf cur i vs).size = cur.size := by
  unfold partOf
  simp only [List.size_toArray, List.length_append, List.length_take, List.length_drop, Array.length_toList]
  omega

theorem run_storeCells_part (g off : Nat) (t : TypeId) : ∀ (vs : List Value) (i : Nat) (cur : Array Value) (w : World), w.heap[g]? = some (.cells cur t (0, 0)) → off + i + vs.length ≤ cur.size → (∀ v ∈ vs, v.oneCell' = true) →
    (storeCells ⟨g, off, none⟩ vs i).run P w = .ok () (w.setRow g (partOf cur (off + i) vs))
  | [], i, cur, w, hg, hl, _ => by
    have : partOf cur (off + i) [] = cur := by
      unfold partOf
      simp
    have hlt : g < w.heap.size := (Array.getElem?_eq_some_iff.1 hg).1
    have hv : w.heap[g] = .cells cur t (0, 0) := (Array.getElem?_eq_some_iff.1 hg).2
    simp only [storeCells, this]
    show Result.ok () w = _
    congr 1
    unfold World.setRow
    cases w with
    | mk heap tape drawn os output =>
      congr 1
      apply Array.ext
      · simp
      · intro k h1 h2
        simp only [Array.getElem_modify]
        split
        · rename_i hk; subst hk; simp at hv; simp [hv]
        · rfl
  | v :: rest, i, cur, w, hg, hl, h1 => by
    have hi : off + i < cur.size := by simp at hl; omega
    have hadd : (⟨g, off, none⟩ : Addr).add i = ⟨g, off + i, none⟩ := by unfold Addr.add; split <;> simp_all
    have hcell : w.cell? ⟨g, off + i, none⟩ = some cur[off + i] := by simp [World.cell?, hg, hi]
    have hfro : w.frozen? ⟨g, off + i, none⟩ = false := by simp [World.frozen?, hg]
    have hst : (store ((⟨g, off, none⟩ : Addr).add i) v).run P w = .ok () (w.setRow g (cur.setIfInBounds (off + i) v)) := by
      rw [hadd, run_store P w _ v _ (h1 v (by simp)), hcell]
      simp [hfro, setCell_eq_setRow w g (off + i) cur t (0, 0) v hg]
    have ih := run_storeCells_part g off t rest (i + 1) (cur.setIfInBounds (off + i) v) (w.setRow g (cur.setIfInBounds (off + i) v)) (setRow_heap w g cur _ t _ hg) (by simp at hl ⊢; omega) (fun x hx => h1 x (by simp [hx]))
    simp only [storeCells, Sem.run_bind, hst, Result.andThen_ok, ih, setRow_setRow]
    congr 2
    unfold partOf
    congr 1
    apply List.ext_getElem?
    intro k
    simp only [Array.toList_setIfInBounds, List.getElem?_append, List.length_take, List.length_set, Array.length_toList, List.getElem?_take, List.getElem?_drop, List.getElem?_set, List.length_cons, List.getElem?_cons]
    rw [show min (off + (i + 1)) cur.size = off + i + 1 by omega, show min (off + i) cur.size = off + i by omega]
    by_cases hk : k < off + i
    · simp [hk, show k < off + (i + 1) by omega, show k < off + i + 1 by omega, show ¬ off + i = k by omega]
    · by_cases hk2 : k = off + i
      · subst hk2
        simp [hi, show off + i < off + (i + 1) by omega]
      · have e1 : ¬ k < off + i + 1 := by omega
        simp only [hk, e1, if_false]
        by_cases hk3 : k - (off + i + 1) < rest.length
        · simp [hk3, show k - (off + i) - 1 = k - (off + i + 1) by omega, show k - (off + i) < rest.length + 1 by omega, show ¬ k - (off + i) = 0 by omega]
        · simp [hk3, show ¬ k - (off + i) < rest.length + 1 by omega, show ¬ off + i = off + (i + 1) + rest.length + (k - (off + i + 1) - rest.length) by omega]
          congr 1
          omega

theorem run_storeVar_part (w : World) (g off : Nat) (t ty : TypeId) (cur : Array Value) (cs : List Value) (hg : w.heap[g]? = some (.cells cur t (0, 0))) (hi : (P.info? ty).map (·.size) = some cs.length)
    (ho : off + cs.length ≤ cur.size) (h1 : ∀ v ∈ cs, v.oneCell' = true) :
    (storeVar ty ⟨g, off, none⟩ (.agg cs.toArray)).run P w = .ok () (w.setRow g (partOf cur off cs)) := by
  have := run_storeCells_part (P := P) g off t cs 0 cur w hg (by omega) h1
  rw [Nat.add_zero] at this
  cases hq : P.info? ty with
  | none => simp [hq] at hi
  | some i =>
    have hs : cs.length = i.size := by simp [hq] at hi; omega
    simp [storeVar, sizeOf, typeInfo, hq, Value.cells, hs, this]

variable {ops : Array Oper} {rest : List Oper} {o : Oper} {a : Act} {w : World}

theorem wpList_store_part {Q : Exit → Act → World → Prop} (hgd : o.guard = none) (ty : TypeId) (x y : Operand) (ho : o.op = .store ty x y) (g off : Nat) (cs : List Value) (hx : a.eval x = .pointer (some ⟨g, off, none⟩)) (hy : a.eval y = .agg cs.toArray)
    (t : TypeId) (cur : Array Value) (hg : w.heap[g]? = some (.cells cur t (0, 0))) (hi : (P.info? ty).map (·.size) = some cs.length) (hn : off + cs.length ≤ cur.size) (h1 : ∀ v ∈ cs, v.oneCell' = true)
    (h : wpList P ops Q rest (a.put o.dst undef) (w.setRow g (partOf cur off cs))) : wpList P ops Q (o :: rest) a w :=
  wpList_plain hgd fun _ hK => by
    unfold Oper.wp execOp
    simp only [ho, hx, hy, Instr.storeAt, Instr.sureAddr, Sem.run_bind, Sem.run_pure, Result.andThen_ok, run_storeVar_part w g off t ty cur cs hg hi hn h1]
    exact hK _ _ h

theorem wpQuiet_load_guarded {C : World → Prop} {Q : Act → Prop} (ty : TypeId) (x : Operand) (ho : o.op = .load ty x) (g off : Nat) (hx : a.eval x = .pointer (some ⟨g, off, none⟩)) (cs : List Value) (d : TypeDesc) (hc : ∀ w, C w → ∀ j v, cs[j]? = some v → w.cell? ⟨g, off + j, none⟩ = some v)
    (hu : P.underlying ty = some d) (hd : (match d with | .struct _ | .array _ _ => true | _ => false) = true) (hi : (P.info? ty).map (·.size) = some cs.length) (hw : Region.wanted o (yielded ops a.tmps) = true)
    (h : wpQuiet P ops C Q rest (a.put o.dst (.agg cs.toArray))) : wpQuiet P ops C Q (o :: rest) a :=
  wpQuiet_load_part hw ty x ho g off hx cs d hc hu hd hi h

theorem wpList_store_box {Q : Exit → Act → World → Prop} (hgd : o.guard = none) (ty : TypeId) (x y : Operand) (ho : o.op = .store ty x y) (g : Nat) (cs : List Value) (hx : a.eval x = .pointer (some ⟨g, 0, none⟩)) (hy : a.eval y = .agg cs.toArray)
    (t : TypeId) (cur : Array Value) (hg : w.heap[g]? = some (.cells cur t (0, 0))) (hi : (P.info? ty).map (·.size) = some cs.length) (hn : cur.size = cs.length) (h1 : ∀ v ∈ cs, v.oneCell' = true)
    (h : wpList P ops Q rest (a.put o.dst undef) (w.setRow g cs.toArray)) : wpList P ops Q (o :: rest) a w :=
  wpList_store_row hgd ty x y ho g cs.toArray hx hy t cur hg (by simpa using hi) (by simpa using hn) (Array.all_eq_true_iff_forall_mem.2 fun v hv => h1 v (by simpa using hv)) h

end

theorem blk_row_eq {w : World} {g : Nat} {c cs : Array Value} {t : TypeId} (h : w.heap[g]? = some (.cells c t)) : (w.setRow g cs).heap[g]? = some (.cells cs t) := setRow_heap w g c cs t _ h

theorem blk_row_ne {w : World} {g k : Nat} {cs : Array Value} (h : g ≠ k) : (w.setRow g cs).heap[k]? = w.heap[k]? := setRow_other w g k cs (Ne.symm h)

theorem ex_row_new {w T : World} {g : Nat} {cs : Array Value} (hw : ∃ y, w = plus T y) (hg : T.heap.size ≤ g) : ∃ y, w.setRow g cs = plus T y := by
  obtain ⟨y, rfl⟩ := hw
  apply below_plus
  have hb := plus_below T y
  refine ⟨hb.os, hb.tape, hb.output, by rw [setRow_size]; exact hb.size, fun n hn => ?_⟩
  rw [blk_row_ne (by omega)]
  exact hb.block n hn

section

variable {α : Type} {f : α → List Value} {w T : World} {ao : Option Addr} {n cap c g k : Nat} {l : List α} {e e' : TypeId} {cur cs : Array Value}

theorem Own.row_other (h : Own e c f T w ao n cap l) (hb : w.heap[g]? = some (.cells cur e')) (he : e' ≠ e) : Own e c f T (w.setRow g cs) ao n cap l := by
  refine ⟨h.1, h.2.1, h.2.2.imp id ?_⟩
  rintro ⟨k, cp, cu, h1, h2, h3, h4⟩
  refine ⟨k, cp, cu, h1, h2, ?_, h4⟩
  have hne : g ≠ k := by
    intro e2
    subst e2
    rw [hb] at h3
    cases h3
    exact he rfl
  rw [blk_row_ne hne]
  exact h3

theorem Own.row_out (h : Own e c f T w ao n cap l) (hg : g < T.heap.size) : Own e c f T (w.setRow g cs) ao n cap l := by
  refine ⟨h.1, h.2.1, h.2.2.imp id ?_⟩
  rintro ⟨k, cp, cu, h1, h2, h3, h4⟩
  exact ⟨k, cp, cu, h1, h2, by rw [blk_row_ne (by omega)]; exact h3, h4⟩

theorem flat_len (hc : ∀ x, (f x).length = c) (l : List α) : (l.flatMap f).length = l.length * c := by
  induction l with
  | nil => simp
  | cons x l ih => rw [List.flatMap_cons, List.length_append, ih, hc, List.length_cons, Nat.succ_mul, Nat.add_comm]

theorem flat_set (hc : ∀ x, (f x).length = c) (l : List α) (x : α) : ∀ k, k < l.length → (l.set k x).flatMap f = (l.flatMap f).take (k * c) ++ (f x ++ (l.flatMap f).drop (k * c + c)) := by
  induction l with
  | nil => intro k hk; simp at hk
  | cons y l ih =>
    intro k hk
    cases k with
    | zero => simp [hc y]
    | succ k =>
      have hk' : k < l.length := by simpa using hk
      rw [List.set_cons_succ, List.flatMap_cons, ih k hk', List.flatMap_cons, Nat.succ_mul, List.take_append, hc, List.drop_append, hc, List.take_of_length_le (l := f y) (by rw [hc]; omega), show List.drop (k * c + c + c) (f y) = [] from List.drop_eq_nil_of_le (by rw [hc]; omega), List.append_assoc, List.nil_append,
        show k * c + c - c = k * c by omega, show k * c + c + c - c = k * c + c by omega]

theorem Own.set_row (h : Own e c f T w (some ⟨g, 0, none⟩) n cap l) (hb : w.heap[g]? = some (.cells cur e)) (hk : k < n) (hc : ∀ x, (f x).length = c) (x : α) :
    Own e c f T (w.setRow g (partOf cur (k * c) (f x))) (some ⟨g, 0, none⟩) n cap (l.set k x) ∧ k * c + (f x).length ≤ cur.size := by
  have hlen := h.1
  have hx := hc x
  rcases h.2.2 with ⟨h1, h0⟩ | ⟨g', cp, cu, h1, h2, h3, h4, h5, h6, h7⟩
  · omega
  · simp only [Value.slice.injEq, true_and, Option.some.injEq, Addr.mk.injEq, and_true] at h1
    obtain ⟨rfl, rfl⟩ := h1
    rw [hb] at h3
    cases h3
    have hkc : k * c + c ≤ n * c := by
      have := Nat.mul_le_mul_right c (show k + 1 ≤ n by omega)
      rw [Nat.succ_mul] at this
      exact this
    have hnc : n * c ≤ cur.size := by rw [h6]; exact Nat.mul_le_mul_right _ h4
    refine ⟨⟨by rw [List.length_set]; exact h.1, ?_, .inr ⟨g, cap, _, rfl, h2, blk_row_eq hb, h4, h5, ?_, ?_⟩⟩, by omega⟩
    · rw [flat_len hc, List.length_set, hlen]
    · rw [partOf_size (by omega)]; exact h6
    · rw [flat_set hc l x k (by omega), ← h7]
      unfold partOf
      rw [List.take_append, List.take_append, List.length_take, Array.length_toList, hx]
      have e1 : min (k * c) cur.size = k * c := by omega
      rw [e1, List.take_of_length_le (l := f x) (by rw [hx]; omega), List.take_of_length_le (l := List.take (k * c) cur.toList) (by rw [List.length_take]; omega), List.take_take, show min (k * c) (n * c) = k * c by omega]
      congr 2
      rw [List.take_drop]
      congr 2
      omega

end

end

section


open Go.RowKit Go.ChangeShapes Go.WideShapes Go.ChangeAt

set_option linter.unusedSimpArgs false

set_option linter.unusedVariables false

attribute [local go_sem] plus_size plus_drew dn_set dn_alloc dn_plus plus_dn cell_plus frozen_plus set_plus cell_alloc frozen_alloc set_alloc

theorem name_w {α : Type} {F : α → World → Prop} {a : α} {w : World} (p : World → Prop) (hp : p w) (h : ∀ w', p w' → F a w') : F a w := h w hp

theorem blk_new2 (w : World) (o : Obj) : (w.alloc o).heap[w.heap.size]? = some o := by rw [blk_alloc, if_pos rfl]

theorem blk_old {w : World} {o o' : Obj} {g : Nat} (h : w.heap[g]? = some o) : (w.alloc o').heap[g]? = some o := by rw [blk_alloc, if_neg (by have := blk_lt h; omega)]; exact h

theorem size_alloc (w : World) (o : Obj) : (w.alloc o).heap.size = w.heap.size + 1 := Array.size_push ..

theorem blk_set {w : World} {g i : Nat} {u : Value} {cs : List Value} {t : TypeId} (h : w.heap[g]? = some (.cells cs.toArray t)) : (w.setCell ⟨g, i, none⟩ u).heap[g]? = some (.cells (cs.set i u).toArray t) := by
  rw [blk_set_eq h]
  simp

theorem blk_set_far {w : World} {g k i : Nat} {u : Value} {o : Obj} (h : w.heap[k]? = some o) (hne : g ≠ k) : (w.setCell ⟨g, i, none⟩ u).heap[k]? = some o := by rw [blk_set_ne hne]; exact h

theorem blk_row_far {w : World} {g k : Nat} {cs : Array Value} {o : Obj} (h : w.heap[k]? = some o) (hne : g ≠ k) : (w.setRow g cs).heap[k]? = some o := by rw [blk_row_ne hne]; exact h

theorem cell_of {w : World} {g i : Nat} {cs : List Value} {t : TypeId} {u : Value} (h : w.heap[g]? = some (.cells cs.toArray t)) (hi : cs[i]? = some u) : w.cell? ⟨g, i, none⟩ = some u := cell_blk h (by simpa using hi)

structure NodeOwn (T w : World) (h : NH) (n : Nd) : Prop where
  f : h.f = n.f
  b : NfB n.f
  far : Own 3 1 fI T w h.ao h.n h.cap n.far

theorem NodeOwn.ex {T w w' : World} {h : NH} {n : Nd} (a : NodeOwn T w h n) (hw : ∃ y, w' = plus w y) : NodeOwn T w' h n := ⟨a.f, a.b, a.far.ex hw⟩

theorem NodeOwn.base {T T' w : World} {h : NH} {n : Nd} (a : NodeOwn T w h n) (hT : T'.heap.size ≤ T.heap.size) : NodeOwn T' w h n := ⟨a.f, a.b, a.far.base hT⟩

def farAs (h : NH) (ao : Option Addr) (n cap : Nat) : NH := ⟨h.f, ao, n, cap⟩

theorem far_set (h : NH) (ao : Option Addr) (n cap : Nat) : (fN h).set 17 (.slice ao n cap) = fN (farAs h ao n cap) := rfl

theorem far_at (h : NH) : (fN h)[17]? = some (.slice h.ao h.n h.cap) := rfl

theorem kind_at (h : NH) : (fN h)[0]? = some (.int .u8 h.f.kind) := rfl

def RetNd (w : World) (n : Nd) (e : Ending) (w' : World) : Prop := ∃ h, e = .returned (vN h) ∧ (∃ y, w' = plus w y) ∧ NodeOwn w w' h n

end

section


open Go.RowKit Go.ChangeShapes Go.WideShapes Go.ChangeAt

set_option linter.unusedSimpArgs false

set_option linter.unusedVariables false

attribute [local go_sem] plus_size plus_drew dn_set dn_alloc dn_plus plus_dn cell_plus frozen_plus set_plus cell_alloc frozen_alloc set_alloc

attribute [local go_sem] eqarr_40 nearr_40 larr_40

attribute [local go_sem] eqarr_137 nearr_137 larr_137

attribute [local go_sem] isnil_47

attribute [local go_sem] isnil_57

attribute [local go_sem] isnil_58

attribute [local go_sem] isnil_59

theorem cloneI (ao : Option Addr) (n cap : Nat) (l : List Int) (w : World) (hl : Lay fI w ao n l) (hn : n ≤ 10000) (hz : ao = none → cap = 0) :
    Calls Tryz.prog 83 #[.slice ao n cap] w fun e w' => RetO 3 1 fI w l e w' := by
  cases ao with
  | none =>
    obtain rfl : n = 0 := by rcases hl.at0 with h | ⟨g, off, h, _⟩; exact h; cases h
    obtain rfl := hz rfl
    obtain rfl := hl.zero
    go_enter Tryz.func83, Tryz.ntmps83
    go_wp2
    go_ret
    exact ⟨none, 0, 0, rfl, skM, own_nil⟩
  | some a =>
    go_enter Tryz.func83, Tryz.ntmps83
    go_wp2_with (at_builtin; (refine wpList_append_lay (T := w) (l := []) rfl _ _ rfl kinI fI_c fI_1 rfl skM ⟨rfl, World.ownsRow_made w _ 0 (Nat.le_refl _) (by decide) rfl⟩ rfl (hl.ex skM) (by omega) (by decide) ?_; intro ao' cap' y' hown'))
    go_ret
    rw [Nat.zero_add, List.nil_append] at hown'
    exact ⟨ao', _, cap', rfl, skM, hown'⟩

theorem cloneV (ao : Option Addr) (n cap : Nat) (l : List V3) (w : World) (hl : Lay fV w ao n l) (hn : n ≤ 10000) (hz : ao = none → cap = 0) :
    Calls Tryz.prog 84 #[.slice ao n cap] w fun e w' => RetO 43 3 fV w l e w' := by
  cases ao with
  | none =>
    obtain rfl : n = 0 := by rcases hl.at0 with h | ⟨g, off, h, _⟩; exact h; cases h
    obtain rfl := hz rfl
    obtain rfl := hl.zero
    go_enter Tryz.func84, Tryz.ntmps84
    go_wp2
    go_ret
    exact ⟨none, 0, 0, rfl, skM, own_nil⟩
  | some a =>
    go_enter Tryz.func84, Tryz.ntmps84
    go_wp2_with (at_builtin; (refine wpList_append_lay (T := w) (l := []) rfl _ _ rfl kinV fV_c fV_1 rfl skM ⟨rfl, World.ownsRow_made w _ 0 (Nat.le_refl _) (by decide) rfl⟩ rfl (hl.ex skM) (by omega) (by decide) ?_; intro ao' cap' y' hown'))
    go_ret
    rw [Nat.zero_add, List.nil_append] at hown'
    exact ⟨ao', _, cap', rfl, skM, hown'⟩

theorem clone2 (ao : Option Addr) (n cap : Nat) (l : List (Int × Int)) (w : World) (hl : Lay f2 w ao n l) (hn : n ≤ 10000) (hz : ao = none → cap = 0) :
    Calls Tryz.prog 85 #[.slice ao n cap] w fun e w' => RetO 137 2 f2 w l e w' := by
  cases ao with
  | none =>
    obtain rfl : n = 0 := by rcases hl.at0 with h | ⟨g, off, h, _⟩; exact h; cases h
    obtain rfl := hz rfl
    obtain rfl := hl.zero
    go_enter Tryz.func85, Tryz.ntmps85
    go_wp2
    go_ret
    exact ⟨none, 0, 0, rfl, skM, own_nil⟩
  | some a =>
    go_enter Tryz.func85, Tryz.ntmps85
    go_wp2_with (at_builtin; (refine wpList_append_lay (T := w) (l := []) rfl _ _ rfl kin2 f2_c f2_1 rfl skM ⟨rfl, World.ownsRow_made w _ 0 (Nat.le_refl _) (by decide) rfl⟩ rfl (hl.ex skM) (by omega) (by decide) ?_; intro ao' cap' y' hown'))
    go_ret
    rw [Nat.zero_add, List.nil_append] at hown'
    exact ⟨ao', _, cap', rfl, skM, hown'⟩

end

section


open Go.RowKit Go.ChangeShapes Go.WideShapes Go.ChangeAt

set_option linter.unusedSimpArgs false

set_option linter.unusedVariables false

attribute [local go_sem] plus_size plus_drew dn_set dn_alloc dn_plus plus_dn cell_plus frozen_plus set_plus cell_alloc frozen_alloc set_alloc

attribute [local go_sem] eqarr_40 nearr_40 larr_40

attribute [local go_sem] eqarr_137 nearr_137 larr_137

attribute [local go_sem] isnil_47

attribute [local go_sem] isnil_57

attribute [local go_sem] isnil_58

attribute [local go_sem] isnil_59

def samePr (p q : Pr) : Bool := decide (p.kind = q.kind) && sameI p.ix q.ix

def samePs (l l2 : List Pr) : Bool := sameL samePr dPr l l2

def sameMs (m o : Ms) : Bool := sameV m.vs o.vs && same2 m.uv o.uv && samePs m.ps o.ps

def FewM (hs : List PH) : Prop := ∀ k, k < hs.length → (nth dPH hs k).n ≤ 1000

theorem samePrim_calls (k1 k2 : Int) (a1 a2 : Option Addr) (n1 n2 c1 c2 : Nat) (x1 x2 : List Int) (w : World) (hl1 : Lay fI w a1 n1 x1) (hl2 : Lay fI w a2 n2 x2) (hn1 : n1 ≤ 1000) (hn2 : n2 ≤ 1000) :
    Calls Tryz.prog 110 #[.agg #[.int .u8 k1, .slice a1 n1 c1], .agg #[.int .u8 k2, .slice a2 n2 c2]] w fun e w' => e = .returned (.bool (samePr ⟨k1, x1⟩ ⟨k2, x2⟩)) ∧ Below w.heap.size w w' := by
  by_cases hk : k1 = k2
  · rw [show samePr ⟨k1, x1⟩ ⟨k2, x2⟩ = sameI x1 x2 by simp [samePr, hk]]
    subst hk
    go_enter Tryz.func110, Tryz.ntmps110
    go_wp2_with (go_at_call 93; refine (plus_post (equalI_calls _ _ _ _ _ _ x1 x2 _ (hl1.ex skM) (hl2.ex skM) (by omega) (by omega))).mono ?_; rintro e w' ⟨rfl, nx, rfl⟩)
    go_ret
    exact ⟨rfl, skB⟩
  · rw [show samePr ⟨k1, x1⟩ ⟨k2, x2⟩ = false by simp [samePr, hk]]
    have dk : (k1 == k2) = false := by rw [beq_eq_false_iff_ne]; exact hk
    go_enter Tryz.func110, Tryz.ntmps110
    go_wp2_with (go_at_call 93; refine (plus_post (equalI_calls _ _ _ _ _ _ x1 x2 _ (hl1.ex skM) (hl2.ex skM) (by omega) (by omega))).mono ?_; rintro e w' ⟨rfl, nx, rfl⟩)
    go_ret
    exact ⟨rfl, skB⟩

set_option maxHeartbeats 4000000 in
theorem equalFunc_calls (pa qa : Option Addr) (pn qn pc qc : Nat) (hs gs : List PH) (ps qs : List Pr) (w : World) (hpl : Lay fP w pa pn hs) (hql : Lay fP w qa qn gs) (hpp : PrimsAt w hs ps) (hqq : PrimsAt w gs qs) (hf : FewM hs) (hg : FewM gs) (hpn : pn ≤ 10000) (hqn : qn ≤ 10000) :
    Calls Tryz.prog 109 #[.slice pa pn pc, .slice qa qn qc, .func (.func 110) #[] #[]] w fun e w' => e = .returned (.bool (samePs ps qs)) ∧ Below w.heap.size w w' := by
  have l1 := hpl.len
  have l2 := hql.len
  have l3 := hpp.len
  have l4 := hqq.len
  by_cases hne : pn = qn
  rotate_left
  · rw [show samePs ps qs = false from same_len (by omega)]
    have ine : ¬ (pn : Int) = (qn : Int) := by omega
    have dne : ((pn : Int) == (qn : Int)) = false := by rw [beq_eq_false_iff_ne]; omega
    go_enter Tryz.func109, Tryz.ntmps109
    go_wp2
    go_ret
    exact ⟨rfl, skB⟩
  subst hne
  go_enter Tryz.func109, Tryz.ntmps109
  go_wp2
  go_loopw [17] (fun i wr => ∃ k : Nat, k ≤ pn ∧ i = .int .i64 k ∧ (∀ j, j < k → samePr (nth dPr ps j) (nth dPr qs j) = true) ∧ ∃ x, wr = plus w x) (fun i _ => pn - (intOf i).toNat)
  case atStart => exact ⟨0, Nat.zero_le _, rfl, fun j hj => by omega, skM⟩
  case round =>
    obtain ⟨k, hk, rfl, hs1, x, rfl⟩ := hrel
    by_cases hkl : k < pn
    · obtain ⟨g, off, rfl, hgl, hcell⟩ := hpl.some (by omega)
      obtain ⟨g2, off2, rfl, hgl2, hcell2⟩ := hql.some (by omega)
      have ik : (k : Int) < (pn : Int) := by omega
      have hf1 := hf k (by omega)
      have hg1 := hg k (by omega)
      obtain ⟨p0, p1⟩ := cellP hpl.len hcell (k := k) (by omega)
      have hp := hpp.one k (by rw [hpl.len]; omega)
      generalize hpep : nth dPr ps k = pr at *
      generalize hhep : nth dPH hs k = ph at *
      obtain ⟨pk, pA, pN, pC⟩ := ph
      obtain ⟨pk2, px⟩ := pr
      obtain ⟨hp1, hp2, hp3, hp4, hp5, hp6⟩ := hp
      simp only at p0 p1 hp1 hp2 hp3 hp4 hp5 hp6
      subst hp1
      obtain ⟨q0, q1⟩ := cellP hql.len hcell2 (k := k) (by omega)
      have hq := hqq.one k (by rw [hql.len]; omega)
      generalize hpeq : nth dPr qs k = qr at *
      generalize hheq : nth dPH gs k = qh at *
      obtain ⟨qk, qA, qN, qC⟩ := qh
      obtain ⟨qk2, qx⟩ := qr
      obtain ⟨hq1, hq2, hq3, hq4, hq5, hq6⟩ := hq
      simp only at q0 q1 hq1 hq2 hq3 hq4 hq5 hq6
      subst hq1
      simp only at hf1 hg1
      cases he : samePr ⟨pk, px⟩ ⟨qk, qx⟩
      · go_wp2_with (go_at_call 110; refine (plus_post (samePrim_calls _ _ _ _ _ _ _ _ px qx _ (hp6.ex skM) (hq6.ex skM) (by omega) (by omega))).mono ?_; rintro e w' ⟨rfl, nx, rfl⟩; rw [he])
        go_ret
        exact ⟨by rw [show samePs ps qs = false from same_not (k := k) (by omega) (by rw [hpep, hpeq]; exact he)]; rfl, skB⟩
      · go_wp2_with (go_at_call 110; refine (plus_post (samePrim_calls _ _ _ _ _ _ _ _ px qx _ (hp6.ex skM) (hq6.ex skM) (by omega) (by omega))).mono ?_; rintro e w' ⟨rfl, nx, rfl⟩; rw [he])
        go_roundw
        case rel => exact ⟨k + 1, by omega, by go_num, upto_succM hs1 (by rw [hpep, hpeq]; exact he), skM⟩
        case measure => simp [intOf]; omega
    · have ik : ¬ (k : Int) < (pn : Int) := by omega
      go_wp2
      go_ret
      exact ⟨by rw [show samePs ps qs = true from same_all (by omega) (fun j hj => hs1 j (by omega))]; rfl, skB⟩

end

section


open Go.RowKit Go.ChangeShapes Go.WideShapes Go.ChangeAt

set_option linter.unusedSimpArgs false

set_option linter.unusedVariables false

attribute [local go_sem] plus_size plus_drew dn_set dn_alloc dn_plus plus_dn cell_plus frozen_plus set_plus cell_alloc frozen_alloc set_alloc

attribute [local go_sem] eqarr_40 nearr_40 larr_40

attribute [local go_sem] eqarr_137 nearr_137 larr_137

attribute [local go_sem] isnil_47

attribute [local go_sem] isnil_57

attribute [local go_sem] isnil_58

attribute [local go_sem] isnil_59

theorem cloneP (ao : Option Addr) (n cap : Nat) (l : List PH) (w : World) (hl : Lay fP w ao n l) (hn : n ≤ 10000) (hz : ao = none → cap = 0) :
    Calls Tryz.prog 86 #[.slice ao n cap] w fun e w' => RetO 131 2 fP w l e w' := by
  cases ao with
  | none =>
    obtain rfl : n = 0 := by rcases hl.at0 with h | ⟨g, off, h, _⟩; exact h; cases h
    obtain rfl := hz rfl
    obtain rfl := hl.zero
    go_enter Tryz.func86, Tryz.ntmps86
    go_wp2
    go_ret
    exact ⟨none, 0, 0, rfl, skM, own_nil⟩
  | some a =>
    go_enter Tryz.func86, Tryz.ntmps86
    go_wp2_with (at_builtin; (refine wpList_append_lay (T := w) (l := []) rfl _ _ rfl kinP fP_c fP_1 rfl skM ⟨rfl, World.ownsRow_made w _ 0 (Nat.le_refl _) (by decide) rfl⟩ rfl (hl.ex skM) (by omega) (by decide) ?_; intro ao' cap' y' hown'))
    go_ret
    rw [Nat.zero_add, List.nil_append] at hown'
    exact ⟨ao', _, cap', rfl, skM, hown'⟩

def greatBM (vn un pn : Nat) (hs : List PH) : Bool := decide (1000 < vn) || decide (1000 < un) || decide (100 < pn) || hs.any (fun h => decide (1000 < h.n))

theorem great_noM {vn un pn : Nat} {hs : List PH} (h : greatBM vn un pn hs = false) : vn ≤ 1000 ∧ un ≤ 1000 ∧ pn ≤ 100 ∧ FewM hs := by
  simp only [greatBM, Bool.or_eq_false_iff, decide_eq_false_iff_not] at h
  obtain ⟨⟨⟨h1, h2⟩, h3⟩, h4⟩ := h
  refine ⟨by omega, by omega, by omega, fun k hk => ?_⟩
  have h5 := List.any_eq_false.1 h4 _ (nth_mem (d := dPH) hk)
  simp only [decide_eq_true_eq] at h5
  omega

set_option maxHeartbeats 2000000 in
theorem great_callsM (va ua pa : Option Addr) (vn vc un uc pn pc : Nat) (hs : List PH) (m : Ms) (w : World) (hm : MeshAt w ⟨va, vn, vc, ua, un, uc, pa, pn, pc⟩ hs m) :
    Calls Tryz.prog 34 #[.agg #[.slice va vn vc, .slice ua un uc, .slice pa pn pc]] w fun e w' => e = .returned (.bool (greatBM vn un pn hs)) ∧ Below w.heap.size w w' := by
  have hpl : Lay fP w pa pn hs := hm.pl
  have hpp : PrimsAt w hs m.ps := hm.pp
  have l1 := hpl.len
  have hz := hm.ple
  have hz2 := hm.vle
  have hz3 := hm.ule
  simp only at hz hz2 hz3
  by_cases h1 : 1000 < vn
  · rw [show greatBM vn un pn hs = true by simp [greatBM, h1]]
    have i1 : (1000 : Int) < (vn : Int) := by omega
    go_enter Tryz.func34, Tryz.ntmps34
    go_wp2
    go_ret
    exact ⟨rfl, skB⟩
  have i1 : ¬ (1000 : Int) < (vn : Int) := by omega
  by_cases h2 : 1000 < un
  · rw [show greatBM vn un pn hs = true by simp [greatBM, h2]]
    have i2 : (1000 : Int) < (un : Int) := by omega
    go_enter Tryz.func34, Tryz.ntmps34
    go_wp2
    go_ret
    exact ⟨rfl, skB⟩
  have i2 : ¬ (1000 : Int) < (un : Int) := by omega
  by_cases h3 : 100 < pn
  · rw [show greatBM vn un pn hs = true by simp [greatBM, h3]]
    have i3 : (100 : Int) < (pn : Int) := by omega
    go_enter Tryz.func34, Tryz.ntmps34
    go_wp2
    go_ret
    exact ⟨rfl, skB⟩
  have i3 : ¬ (100 : Int) < (pn : Int) := by omega
  have hgr : greatBM vn un pn hs = hs.any (fun h => decide (1000 < h.n)) := by simp [greatBM, h1, h2, h3]
  rw [hgr]
  obtain ⟨ps, hps⟩ : ∃ ps, m.ps = ps := ⟨_, rfl⟩
  rw [hps] at hpp
  go_enter Tryz.func34, Tryz.ntmps34
  go_wp2
  go_loopw [3] (fun i wr => ∃ k : Nat, k ≤ pn ∧ i = .int .i64 k ∧ (∀ j, j < k → decide (1000 < (nth dPH hs j).n) = false) ∧ ∃ x, wr = plus (w.alloc (.cells #[.slice va vn vc, .slice ua un uc, .slice pa pn pc] 61)) x) (fun i _ => pn - (intOf i).toNat)
  case atStart => exact ⟨0, Nat.zero_le _, rfl, fun j hj => by omega, skM⟩
  case round =>
    obtain ⟨k, hk, rfl, hs1, x, rfl⟩ := hrel
    by_cases hkl : k < pn
    · obtain ⟨g, off, rfl, hgl, hcell⟩ := hpl.some (by omega)
      obtain ⟨d0, d1⟩ := cellP hpl.len hcell (k := k) hkl
      have ik : (k : Int) < (pn : Int) := by omega
      by_cases h4 : 1000 < (nth dPH hs k).n
      · have i4 : (1000 : Int) < ((nth dPH hs k).n : Int) := by omega
        go_wp2
        go_ret
        exact ⟨by rw [show hs.any (fun h => decide (1000 < h.n)) = true from List.any_eq_true.2 ⟨_, nth_mem (d := dPH) (k := k) (by omega), decide_eq_true h4⟩]; rfl, skB⟩
      · have i4 : ¬ (1000 : Int) < ((nth dPH hs k).n : Int) := by omega
        go_wp2
        go_roundw
        case rel => exact ⟨k + 1, by omega, by go_num, upto_succM hs1 (decide_eq_false h4), skM⟩
        case measure => simp [intOf]; omega
    · have ik : ¬ (k : Int) < (pn : Int) := by omega
      go_wp2
      go_ret
      exact ⟨by rw [show hs.any (fun h => decide (1000 < h.n)) = false from List.any_eq_false.2 (fun h hh => by (obtain ⟨q, hq, rfl⟩ := List.getElem_of_mem hh); (have h5 := hs1 q (by omega)); rw [nth_eq hq] at h5; rw [h5]; decide)]; rfl, skB⟩

end

section


open Go.RowKit Go.ChangeShapes Go.WideShapes Go.ChangeAt Go.Deep

section

variable {H : Type} {enc : TypeId × Value → H} {P : Program} {W : World} {base : Nat} {spare : Nat → Bool} {held : Bool} {f0 f1 g0 : Field} {t e ta : TypeId}

theorem slot_cells {fuel : Nat} {x : DataW H × List MemPlace} {c0 c1 : Value} (hs : P.underlying t = some (.struct #[f0, f1])) (hone : oneCellFields P #[f0, f1] = true) (hk : P.underlying f0.type = some (.int .i64)) (hi : P.underlying f1.type = some .bool)
    (h : DataW.trod enc P W base spare held fuel t [c0, c1] = some x) : ∃ s : Sl, [c0, c1] = fS s := by
  obtain ⟨y0, y1, n, hx, _, h0, h1⟩ := trod_struct2 hs h
  obtain ⟨o0, k0⟩ := hone_of hone 0 f0 rfl
  obtain ⟨o1, k1⟩ := hone_of hone 1 f1 rfl
  have h0' : DataW.trod enc P W base spare held n f0.type [c0] = some y0 := by simpa [o0, k0] using h0
  have h1' : DataW.trod enc P W base spare held n f1.type [c1] = some y1 := by simpa [o1, k1] using h1
  obtain ⟨k, ek, _, wk⟩ := DataW.trod_int hk h0'
  obtain rfl : c0 = .int .i64 k := by simpa using ek
  obtain ⟨b, eb, _⟩ := DataW.trod_bool hi h1'
  obtain rfl : c1 = .bool b := by simpa using eb
  exact ⟨⟨k, b⟩, rfl⟩

theorem lay_slots {ao : Option Addr} {n : Nat} (hs : P.underlying t = some (.struct #[f0, f1])) (hone : oneCellFields P #[f0, f1] = true) (hk : P.underlying f0.type = some (.int .i64)) (hi : P.underlying f1.type = some .bool)
    (h : RowsAt W ao n 2 (fun cs => ∃ m y, DataW.trod enc P W base spare held m t cs = some y)) : ∃ l : List Sl, Lay fS W ao n l := by
  obtain ⟨l, hl, _⟩ := lay_rows (f := fS) (R := fun _ => True) dSl (by decide) fS_c h (by
    rintro cs hl ⟨m, y, hy⟩
    match cs, hl, hy with
    | [a, b], _, hy =>
      obtain ⟨s, e1⟩ := slot_cells hs hone hk hi hy
      exact ⟨s, e1, trivial⟩)
  exact ⟨l, hl⟩

end

end

section


open Go.RowKit Go.ChangeShapes Go.WideShapes Go.ChangeAt Go.Deep

section

variable {H : Type} {enc : TypeId × Value → H} {P : Program} {W : World} {base : Nat} {spare : Nat → Bool} {held : Bool} {f0 f1 g0 s0 s1 : Field} {t e ta tg ts te : TypeId}

def Sm (P : Program) (t : TypeId) (d : DataW H) : Prop := ∀ x, x ∈ d.weights P t → x ≤ reachBytes

theorem sm_of {ts : List TypeId} {ds : List (DataW H)} (h : (DataW.weightsEach P ts ds).all (fun x => decide (x ≤ reachBytes)) = true) {j : Nat} {d : DataW H} (ht : ts[j]? = some t) (hd : ds[j]? = some d) : Sm P t d := by
  intro x hx
  have := List.all_eq_true.1 h x (DataW.weights_mem_each ht hd x hx)
  simpa using this

theorem all_mem {d : DataW H} {x : Nat} : ∀ {l : List (DataW H)}, d ∈ l → x ∈ d.weights P e → x ∈ DataW.weightsAll P e l
  | [], h, _ => by simp at h
  | a :: l, h, hx => by
    rw [DataW.weightsAll, List.mem_append]
    rcases List.mem_cons.1 h with rfl | h
    · exact .inl hx
    · exact .inr (all_mem h hx)

theorem sm_field {fs : Array Field} {parts : List (DataW H)} (hu : P.underlying t = some (.struct fs)) (h : Sm P t (.agg parts)) {j : Nat} {f : Field} {d : DataW H} (hf : fs[j]? = some f) (hd : parts[j]? = some d) : Sm P f.type d := by
  intro x hx
  refine h x ?_
  simp only [DataW.weights, hu]
  exact DataW.weights_mem_each (j := j) (t := f.type) (by simp [hf]) hd x hx

theorem open_slS {c fuel : Nat} {v : Value} {x : DataW H × List MemPlace} (ht : P.underlying t = some (.slice e)) (hc : P.cellsOf e = c) (hc0 : 0 < c) (h : DataW.trod enc P W base spare held fuel t [v] = some x) (hS : Sm P t x.1) :
    ∃ (ao : Option Addr) (n cap : Nat), v = .slice ao n cap ∧ n ≤ 9223372036854775807 ∧ n ≤ cap ∧ n * P.bytesOf e ≤ reachBytes ∧ (ao = none → n = 0 ∧ cap = 0) ∧ RowsAt W ao n c (fun cs => ∃ m y, DataW.trod enc P W base spare held m e cs = some y ∧ Sm P e y.1) := by
  rcases Go.Deep.open_slice ht h with ⟨h0, _⟩ | ⟨a, len, cap, m, n, D, Pl, h0, hb, hl, hm, hmm, hx, hall⟩
  · obtain rfl : v = .slice none 0 0 := by simpa using h0
    exact ⟨none, 0, 0, rfl, by decide, Nat.le_refl _, by simp, fun _ => ⟨rfl, rfl⟩, .inl rfl⟩
  · obtain rfl : v = .slice (some a) len cap := by simpa using h0
    have hlm : len ≤ m := by rw [hmm]; split <;> omega
    rw [hx] at hS
    have hw : len * P.bytesOf e ≤ reachBytes := by
      have h1 := hS ((len + (m - len)) * P.bytesOf e) (by simp [DataW.weights, ht])
      exact Nat.le_trans (Nat.mul_le_mul_right _ (Nat.le_add_right _ _)) h1
    refine ⟨some a, len, cap, rfl, by unfold maxLen at hm; omega, hl, hw, (fun h => by cases h), ?_⟩
    by_cases hz : len = 0
    · exact .inl hz
    right
    obtain ⟨cs0, hc1, _⟩ := hall 0 (by omega)
    rw [hc] at hc1
    obtain ⟨_, hl1, hcell⟩ := World.cells?_some hc1
    have hcell0 := hcell 0 hc0
    rw [List.getElem?_eq_getElem (by omega)] at hcell0
    simp only [Nat.zero_mul, Addr.add, if_true] at hcell0
    obtain ⟨ea, hlt⟩ := addr_none hcell0
    refine ⟨a.block, a.off, by rw [← ea], hlt, fun i hi => ?_⟩
    obtain ⟨cs, hc2, htr⟩ := hall i (by omega)
    rw [hc] at hc2
    obtain ⟨_, hl2, hcell2⟩ := World.cells?_some hc2
    refine ⟨cs, hl2, fun j hj => ?_, n, _, htr, fun y hy => hS y ?_⟩
    · have hcj := hcell2 j hj
      rw [ea, add_none, add_none, Nat.add_assoc] at hcj
      exact hcj
    · simp only [DataW.weights, ht, List.mem_cons, List.mem_append]
      exact .inr (.inl (all_mem (d := D i) (List.mem_map.2 ⟨i, List.mem_range.2 hi, rfl⟩) hy))

structure GrIn (w : World) (ao : Option Addr) (n : Nat) (ko : Option Addr) (kn : Nat) (hs : List RH) (g : Gr) : Prop where
  sl : Lay fS w ao n g.sl
  kh : Lay fR w ko kn hs
  len : hs.length = g.ks.length
  row : ∀ k, k < hs.length → Lay f2 w (nth dRH hs k).ao (nth dRH hs k).n (nth [] g.ks k)
  n1 : n ≤ 9223372036854775807
  n2 : kn ≤ 9223372036854775807
  n3 : ∀ k, k < hs.length → (nth dRH hs k).n ≤ 8796093022208
  n4 : ∀ k, k < hs.length → (nth dRH hs k).n ≤ (nth dRH hs k).cap
  n5 : ∀ k, k < hs.length → (nth dRH hs k).ao = none → (nth dRH hs k).n = 0 ∧ (nth dRH hs k).cap = 0

theorem GrIn.few {w : World} {ao : Option Addr} {n : Nat} {ko : Option Addr} {kn : Nat} {hs : List RH} {g : Gr} (h : GrIn w ao n ko kn hs g) (hg : greatB n kn hs = false) : GrAt w ao n ko kn hs g := by
  obtain ⟨h1, h2, h3⟩ := great_no hg
  refine ⟨h.sl, h.kh, h.len, h.row, by omega, by omega, fun k hk => ?_, h.n4, h.n5⟩
  rw [h.kh.len] at hk
  have := sum_at hs hk
  omega

theorem row_cells {fuel : Nat} {x : DataW H × List MemPlace} {c0 : Value} (ht : P.underlying t = some (.slice e)) (hc : P.cellsOf e = 2) (hf : flatB P 4 e = true) (hb : P.bytesOf e = 16) (h : DataW.trod enc P W base spare held fuel t [c0] = some x) (hS : Sm P t x.1) :
    ∃ r : RH, [c0] = fR r ∧ ∃ l : List (Int × Int), Lay f2 W r.ao r.n l ∧ r.n ≤ 8796093022208 ∧ r.n ≤ r.cap ∧ (r.ao = none → r.n = 0 ∧ r.cap = 0) := by
  obtain ⟨ao, n, cap, rfl, _, h2, h3, h4, h5⟩ := open_slS ht hc (by decide) h hS
  have h5' : RowsAt W ao n 2 (fun cs => ∃ m y, DataW.trod enc P W base spare held m e cs = some y) := by
    rcases h5 with h | ⟨g, off, e1, hg, h⟩
    · exact .inl h
    · exact .inr ⟨g, off, e1, hg, fun i hi => by obtain ⟨cs, a, b, m, y, c, _⟩ := h i hi; exact ⟨cs, a, b, m, y, c⟩⟩
  obtain ⟨l, hl⟩ := lay_twos hf h5'
  rw [hb] at h3
  exact ⟨⟨ao, n, cap⟩, rfl, l, hl, by unfold reachBytes at h3; simp only; omega, h2, h4⟩

end

end

section


open Go.RowKit Go.ChangeShapes Go.WideShapes Go.ChangeAt

set_option linter.unusedSimpArgs false

set_option linter.unusedVariables false

attribute [local go_sem] plus_size plus_drew dn_set dn_alloc dn_plus plus_dn cell_plus frozen_plus set_plus cell_alloc frozen_alloc set_alloc

theorem cellFar {w : World} {g o n k : Nat} {l : List NH} (hn : l.length = n) (h : ∀ j u, (l.flatMap fN)[j]? = some u → w.cell? ⟨g, o + j, none⟩ = some u) (hk : k < n) : w.cell? ⟨g, o + k * 33 + 17, none⟩ = some (.slice (nth nh0 l k).ao (nth nh0 l k).n (nth nh0 l k).cap) := by
  have h0 := cell_nth (d := nh0) hn fN_c h k 17 _ hk (by decide) rfl
  rwa [← Nat.add_assoc] at h0

def meshG (hs : List MH) (ps : List (List PH)) (k : Nat) : Bool := greatBM (nth mh0 hs k).vn (nth mh0 hs k).un (nth mh0 hs k).pn (nth [] ps k)

def greatSc (h : SH) (x : SX) : Bool := greatB h.gn h.kn x.gr || (decide (200 < h.nn) || (decide (60 < h.mn) || (decide (60 < h.tn) || (greatT x.th || (x.nh.any (fun q => decide (200 < q.n)) || (List.range x.mh.length).any (meshG x.mh x.ph))))))

theorem rgreatM_at {w : World} {h : MH} {hs : List PH} {m : Ms} (hm : MeshAt w h hs m) : Calls Tryz.prog 34 #[.agg #[.slice h.va h.vn h.vc, .slice h.ua h.un h.uc, .slice h.pa h.pn h.pc]] w fun e w' => e = .returned (.bool (greatBM h.vn h.un h.pn hs)) ∧ Below w.heap.size w w' :=
  great_callsM _ _ _ _ _ _ _ _ _ hs m w hm

set_option maxHeartbeats 4000000 in
theorem rgreat10_calls (h : SH) (x : SX) (s : Sc) (w : World) (hG : GrIn w h.ga h.gn h.ka h.kn x.gr s.g) (hR : RestAt w h x s) :
    Calls Tryz.prog 13 #[vS h] w fun e w' => e = .returned (.bool (greatSc h x)) ∧ ∃ y, w' = plus w y := by
  obtain ⟨ga, gn, gc, ka, kn, kc, na, nn, nc, ma, mn, mc, ta, tn, tc, r0, r1⟩ := h
  have nl := hR.nl
  have ns := hR.ns
  have ml := hR.ml
  have ms := hR.ms
  have tl := hR.tl
  have ts := hR.ts
  have n1 := hR.n1
  have n2 := hR.n2
  have n3 := hR.n3
  simp only at nl ml ms tl ts n1 n2 n3 hG
  clear hR
  have nlen := nl.len
  have mlen := ml.len
  have mlen2 := ms.len
  have tlen := tl.len
  have htn : ∀ k, k < tn → (nth th0 x.th k).n ≤ 9223372036854775807 := fun k hk => (ts.one k (by omega)).tx.le
  have hgn := hG.n1
  have hkn := hG.n2
  have hgk := hG.kh
  have hgr : ∀ k, k < kn → (nth dRH x.gr k).n ≤ 8796093022208 := fun k hk => hG.n3 k (by rw [hgk.len]; exact hk)
  replace htn := Hush9.mk htn
  replace hgr := Hush9.mk hgr
  clear hG
  unfold vS
  simp only
  cases hg : greatB gn kn x.gr
  rotate_left
  · go_enter Tryz.func13, Tryz.ntmps13
    go_wp2_with (first | (go_at_call 32; refine (plus_post (great_calls _ _ _ _ _ _ x.gr _ (hgk.ex sk9) hgn hkn hgr.it)).mono ?_; rintro e w' ⟨rfl, nx, rfl⟩; rw [hg]) | (go_at_call 33; refine (rgreat9_calls _ _ _ x.th _ (tl.ex sk9) n3 htn.it).mono ?_; rintro e w' ⟨rfl, nx, rfl⟩; rw [hgt]))
    go_ret
    exact ⟨by rw [show greatSc ⟨ga, gn, gc, ka, kn, kc, na, nn, nc, ma, mn, mc, ta, tn, tc, r0, r1⟩ x = true by simp [greatSc, hg]]; rfl, sk9⟩
  by_cases b1 : 200 < nn
  · have i1 : (200 : Int) < (nn : Int) := by omega
    go_enter Tryz.func13, Tryz.ntmps13
    go_wp2_with (first | (go_at_call 32; refine (plus_post (great_calls _ _ _ _ _ _ x.gr _ (hgk.ex sk9) hgn hkn hgr.it)).mono ?_; rintro e w' ⟨rfl, nx, rfl⟩; rw [hg]) | (go_at_call 33; refine (rgreat9_calls _ _ _ x.th _ (tl.ex sk9) n3 htn.it).mono ?_; rintro e w' ⟨rfl, nx, rfl⟩; rw [hgt]))
    go_ret
    exact ⟨by rw [show greatSc ⟨ga, gn, gc, ka, kn, kc, na, nn, nc, ma, mn, mc, ta, tn, tc, r0, r1⟩ x = true by simp [greatSc, b1]]; rfl, sk9⟩
  have i1 : ¬ (200 : Int) < (nn : Int) := by omega
  by_cases b2 : 60 < mn
  · have i2 : (60 : Int) < (mn : Int) := by omega
    go_enter Tryz.func13, Tryz.ntmps13
    go_wp2_with (first | (go_at_call 32; refine (plus_post (great_calls _ _ _ _ _ _ x.gr _ (hgk.ex sk9) hgn hkn hgr.it)).mono ?_; rintro e w' ⟨rfl, nx, rfl⟩; rw [hg]) | (go_at_call 33; refine (rgreat9_calls _ _ _ x.th _ (tl.ex sk9) n3 htn.it).mono ?_; rintro e w' ⟨rfl, nx, rfl⟩; rw [hgt]))
    go_ret
    exact ⟨by rw [show greatSc ⟨ga, gn, gc, ka, kn, kc, na, nn, nc, ma, mn, mc, ta, tn, tc, r0, r1⟩ x = true by simp [greatSc, b2]]; rfl, sk9⟩
  have i2 : ¬ (60 : Int) < (mn : Int) := by omega
  by_cases b3 : 60 < tn
  · have i3 : (60 : Int) < (tn : Int) := by omega
    go_enter Tryz.func13, Tryz.ntmps13
    go_wp2_with (first | (go_at_call 32; refine (plus_post (great_calls _ _ _ _ _ _ x.gr _ (hgk.ex sk9) hgn hkn hgr.it)).mono ?_; rintro e w' ⟨rfl, nx, rfl⟩; rw [hg]) | (go_at_call 33; refine (rgreat9_calls _ _ _ x.th _ (tl.ex sk9) n3 htn.it).mono ?_; rintro e w' ⟨rfl, nx, rfl⟩; rw [hgt]))
    go_ret
    exact ⟨by rw [show greatSc ⟨ga, gn, gc, ka, kn, kc, na, nn, nc, ma, mn, mc, ta, tn, tc, r0, r1⟩ x = true by simp [greatSc, b3]]; rfl, sk9⟩
  have i3 : ¬ (60 : Int) < (tn : Int) := by omega
  cases hgt : greatT x.th
  rotate_left
  · go_enter Tryz.func13, Tryz.ntmps13
    go_wp2_with (first | (go_at_call 32; refine (plus_post (great_calls _ _ _ _ _ _ x.gr _ (hgk.ex sk9) hgn hkn hgr.it)).mono ?_; rintro e w' ⟨rfl, nx, rfl⟩; rw [hg]) | (go_at_call 33; refine (rgreat9_calls _ _ _ x.th _ (tl.ex sk9) n3 htn.it).mono ?_; rintro e w' ⟨rfl, nx, rfl⟩; rw [hgt]))
    go_ret
    exact ⟨by rw [show greatSc ⟨ga, gn, gc, ka, kn, kc, na, nn, nc, ma, mn, mc, ta, tn, tc, r0, r1⟩ x = true by simp [greatSc, hgt]]; rfl, sk9⟩
  have hres : greatSc ⟨ga, gn, gc, ka, kn, kc, na, nn, nc, ma, mn, mc, ta, tn, tc, r0, r1⟩ x = (x.nh.any (fun q => decide (200 < q.n)) || (List.range mn).any (meshG x.mh x.ph)) := by simp [greatSc, hg, b1, b2, b3, hgt, mlen]
  rw [hres]
  clear hres
  go_enter Tryz.func13, Tryz.ntmps13
  go_wp2_with (first | (go_at_call 32; refine (plus_post (great_calls _ _ _ _ _ _ x.gr _ (hgk.ex sk9) hgn hkn hgr.it)).mono ?_; rintro e w' ⟨rfl, nx, rfl⟩; rw [hg]) | (go_at_call 33; refine (rgreat9_calls _ _ _ x.th _ (tl.ex sk9) n3 htn.it).mono ?_; rintro e w' ⟨rfl, nx, rfl⟩; rw [hgt]))
  go_loopw [3] (fun i wr => ∃ k : Nat, k ≤ nn ∧ i = .int .i64 k ∧ (∀ j, j < k → decide (200 < (nth nh0 x.nh j).n) = false) ∧ ∃ y, wr = plus (w.alloc (.cells #[.slice ga gn gc, .slice ka kn kc, .slice na nn nc, .slice ma mn mc, .slice ta tn tc, .int .i64 r0, .int .i64 r1] 34)) y) (fun i _ => nn - (intOf i).toNat)
  case atStart => exact ⟨0, Nat.zero_le _, rfl, fun j hj => by omega, sk9⟩
  case round =>
    obtain ⟨k, hk, rfl, hs, y, rfl⟩ := hrel
    by_cases hkl : k < nn
    · obtain ⟨g, off, rfl, hgl, hcell⟩ := nl.some (by omega)
      have c0 := cellFar nlen hcell hkl
      have ik : (k : Int) < (nn : Int) := by omega
      by_cases h2 : 200 < (nth nh0 x.nh k).n
      · have j2 : (200 : Int) < ((nth nh0 x.nh k).n : Int) := by omega
        go_wp2
        go_ret
        exact ⟨by rw [show x.nh.any (fun q => decide (200 < q.n)) = true from List.any_eq_true.2 ⟨_, nth_mem (d := nh0) (k := k) (by omega), decide_eq_true h2⟩]; rfl, sk9⟩
      · have j2 : ¬ (200 : Int) < ((nth nh0 x.nh k).n : Int) := by omega
        go_wp2
        go_roundw
        case rel => exact ⟨k + 1, by omega, by go_num, upto_succ9 hs (decide_eq_false h2), sk9⟩
        case measure => simp [intOf]; omega
    · have ik : ¬ (k : Int) < (nn : Int) := by omega
      obtain rfl : nn = k := by omega
      have hall : x.nh.any (fun q => decide (200 < q.n)) = false := List.any_eq_false.2 (fun q hq => by (obtain ⟨i, hi, rfl⟩ := List.getElem_of_mem hq); (have h5 := hs i (by omega)); rw [nth_eq hi] at h5; rw [h5]; decide)
      replace hall := Hush9.mk hall
      clear hs
      go_wp2
      go_loopw [4] (fun i wr => ∃ k : Nat, k ≤ mn ∧ i = .int .i64 k ∧ (∀ j, j < k → meshG x.mh x.ph j = false) ∧ ∃ y, wr = plus (w.alloc (.cells #[.slice ga gn gc, .slice ka kn kc, .slice na nn nc, .slice ma mn mc, .slice ta tn tc, .int .i64 r0, .int .i64 r1] 34)) y) (fun i _ => mn - (intOf i).toNat)
      case atStart => exact ⟨0, Nat.zero_le _, rfl, fun j hj => by omega, sk9⟩
      case round =>
        obtain ⟨k2, hk2, rfl, hs2, y2, rfl⟩ := hrel
        by_cases hkl2 : k2 < mn
        · obtain ⟨g, off, rfl, hgl, hcell⟩ := ml.some (by omega)
          obtain ⟨c0, c1, c2⟩ := cellMh mlen hcell hkl2
          have hone := ms.one k2 (by omega)
          have ik2 : (k2 : Int) < (mn : Int) := by omega
          cases hmg : meshG x.mh x.ph k2
          · have hq : greatBM (nth mh0 x.mh k2).vn (nth mh0 x.mh k2).un (nth mh0 x.mh k2).pn (nth [] x.ph k2) = false := hmg
            go_wp2_with (go_at_call 34; refine (plus_post (rgreatM_at (hone.ex sk9))).mono ?_; rintro e w' ⟨rfl, nx, rfl⟩; rw [hq])
            go_roundw
            case rel => exact ⟨k2 + 1, by omega, by go_num, upto_succ9 hs2 hmg, sk9⟩
            case measure => simp [intOf]; omega
          · have hq : greatBM (nth mh0 x.mh k2).vn (nth mh0 x.mh k2).un (nth mh0 x.mh k2).pn (nth [] x.ph k2) = true := hmg
            go_wp2_with (go_at_call 34; refine (plus_post (rgreatM_at (hone.ex sk9))).mono ?_; rintro e w' ⟨rfl, nx, rfl⟩; rw [hq])
            go_ret
            exact ⟨by rw [hall.it, show (List.range mn).any (meshG x.mh x.ph) = true from List.any_eq_true.2 ⟨k2, List.mem_range.2 (by omega), hmg⟩]; rfl, sk9⟩
        · have ik2 : ¬ (k2 : Int) < (mn : Int) := by omega
          go_wp2
          go_ret
          exact ⟨by rw [hall.it, show (List.range mn).any (meshG x.mh x.ph) = false from List.any_eq_false.2 (fun i hi => by rw [hs2 i (by have := List.mem_range.1 hi; omega)]; decide)]; rfl, sk9⟩

end

end Go.Proofs.YtcekcihijdipoaaGreat
