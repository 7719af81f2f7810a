/- A pack of texts: StorePart, EdBox, Mesh5, Mesh13, Mesh15, Open3, Open4, Ed6, Tx4, Ed7, Mesh14, Ed8, EdMath. -/
import Derived.Laws.Tables
import Derived.Deep.DeepCutAuto
import Derived.SizedLaws
import Derived.Test.YtcekcihijdipoaaGreatPN6
import Derived.Test.YtcekcihijdipoaaGreatPN2
import Derived.Test.YtcekcihijdipoaaGreatPN4
import Derived.Test.YtcekcihijdipoaaGreatPN5
import Derived.Test.YtcekcihijdipoaaGreatPN1
import Derived.Test.YtcekcihijdipoaaGreatPN3
namespace Go.Proofs.YtcekcihijdipoaaGreat

section


open Go.RowKit

set_option linter.unusedVariables false

section

variable {P : Program}

def partOf (cur : Array Value) (i : Nat) (vs : List Value) : Array Value := (cur.toList.take i ++ (vs ++ cur.toList.drop (i + vs.length))).toArray

theorem partOf_size {cur : Array Value} {i : Nat} {vs : List Value} (h : i + vs.length ≤ cur.size) : (partOf cur i vs).size = cur.size := by
  unfold partOf
  simp only [List.size_toArray, List.length_append, List.length_take, List.length_drop, Array.length_toList]
  omega

theorem run_storeCells_part (g off : Nat) (t : TypeId) : ∀ (vs : List Value) (i : Nat) (cur : Array Value) (w : World), w.heap[g]? = some (.cells cur t (0, 0)) → off + i + vs.length ≤ cur.size → (∀ v ∈ vs, v.oneCell' = true) →
    (storeCells ⟨g, off, none⟩ vs i).run P w = .ok () (w.setRow g (partOf cur (off + i) vs))
  | [], i, cur, w, hg, hl, _ => by
    have : partOf cur (off + i) [] = cur := by
      unfold partOf
      simp
    have hlt : g < w.heap.size := (Array.getElem?_eq_some_iff.1 hg).1
    have hv : w.heap[g] = .cells cur t (0, 0) := (Array.getElem?_eq_some_iff.1 hg).2
    simp only [storeCells, this]
    show Result.ok () w = _
    congr 1
    unfold World.setRow
    cases w with
    | mk heap tape drawn os output =>
      congr 1
      apply Array.ext
      · simp
      · intro k h1 h2
        simp only [Array.getElem_modify]
        split
        · rename_i hk; subst hk; simp at hv; simp [hv]
        · rfl
  | v :: rest, i, cur, w, hg, hl, h1 => by
    have hi : off + i < cur.size := by simp at hl; omega
    have hadd : (⟨g, off, none⟩ : Addr).add i = ⟨g, off + i, none⟩ := by unfold Addr.add; split <;> simp_all
    have hcell : w.cell? ⟨g, off + i, none⟩ = some cur[off + i] := by simp [World.cell?, hg, hi]
    have hfro : w.frozen? ⟨g, off + i, none⟩ = false := by simp [World.frozen?, hg]
    have hst : (store ((⟨g, off, none⟩ : Addr).add i) v).run P w = .ok () (w.setRow g (cur.setIfInBounds (off + i) v)) := by
      rw [hadd, run_store P w _ v _ (h1 v (by simp)), hcell]
      simp [hfro, setCell_eq_setRow w g (off + i) cur t (0, 0) v hg]
    have ih := run_storeCells_part g off t rest (i + 1) (cur.setIfInBounds (off + i) v) (w.setRow g (cur.setIfInBounds (off + i) v)) (setRow_heap w g cur _ t _ hg) (by simp at hl ⊢; omega) (fun x hx => h1 x (by simp [hx]))
    simp only [storeCells, Sem.run_bind, hst, Result.andThen_ok, ih, setRow_setRow]
    congr 2
    unfold partOf
    congr 1
    apply List.ext_getElem?
    intro k
    simp only [Array.toList_setIfInBounds, List.getElem?_append, List.length_take, List.length_set, Array.length_toList, List.getElem?_take, List.getElem?_drop, List.getElem?_set, List.length_cons, List.getElem?_cons]
    rw [show min (off + (i + 1)) cur.size = off + i + 1 by omega, show min (off + i) cur.size = off + i by omega]
    by_cases hk : k < off + i
    · simp [hk, show k < off + (i + 1) by omega, show k < off + i + 1 by omega, show ¬ off + i = k by omega]
    · by_cases hk2 : k = off + i
      · subst hk2
        simp [hi, show off + i < off + (i + 1) by omega]
      · have e1 : ¬ k < off + i + 1 := by omega
        simp only [hk, e1, if_false]
        by_cases hk3 : k - (off + i + 1) < rest.length
        · simp [hk3, show k - (off + i) - 1 = k - (off + i + 1) by omega, show k - (off + i) < rest.length + 1 by omega, show ¬ k - (off + i) = 0 by omega]
        · simp [hk3, show ¬ k - (off + i) < rest.length + 1 by omega, show ¬ off + i = off + (i + 1) + rest.length + (k - (off + i + 1) - rest.length) by omega]
          congr 1
          omega

theorem run_storeVar_part (w : World) (g off : Nat) (t ty : TypeId) (cur : Array Value) (cs : List Value) (hg : w.heap[g]? = some (.cells cur t (0, 0))) (hi : (P.info? ty).map (·.size) = some cs.length)
    (ho : off + cs.length ≤ cur.size) (h1 : ∀ v ∈ cs, v.oneCell' = true) :
    (storeVar ty ⟨g, off, none⟩ (.agg cs.toArray)).run P w = .ok () (w.setRow g (partOf cur off cs)) := by
  have := run_storeCells_part (P := P) g off t cs 0 cur w hg (by omega) h1
  rw [Nat.add_zero] at this
  cases hq : P.info? ty with
  | none => simp [hq] at hi
  | some i =>
    have hs : cs.length = i.size := by simp [hq] at hi; omega
    simp [storeVar, sizeOf, typeInfo, hq, Value.cells, hs, this]

variable {ops : Array Oper} {rest : List Oper} {o : Oper} {a : Act} {w : World}

theorem wpList_store_part {Q : Exit → Act → World → Prop} (hgd : o.guard = none) (ty : TypeId) (x y : Operand) (ho : o.op = .store ty x y) (g off : Nat) (cs : List Value) (hx : a.eval x = .pointer (some ⟨g, off, none⟩)) (hy : a.eval y = .agg cs.toArray)
    (t : TypeId) (cur : Array Value) (hg : w.heap[g]? = some (.cells cur t (0, 0))) (hi : (P.info? ty).map (·.size) = some cs.length) (hn : off + cs.length ≤ cur.size) (h1 : ∀ v ∈ cs, v.oneCell' = true)
    (h : wpList P ops Q rest (a.put o.dst undef) (w.setRow g (partOf cur off cs))) : wpList P ops Q (o :: rest) a w :=
  wpList_plain hgd fun _ hK => by
    unfold Oper.wp execOp
    simp only [ho, hx, hy, Instr.storeAt, Instr.sureAddr, Sem.run_bind, Sem.run_pure, Result.andThen_ok, run_storeVar_part w g off t ty cur cs hg hi hn h1]
    exact hK _ _ h

theorem wpQuiet_load_guarded {C : World → Prop} {Q : Act → Prop} (ty : TypeId) (x : Operand) (ho : o.op = .load ty x) (g off : Nat) (hx : a.eval x = .pointer (some ⟨g, off, none⟩)) (cs : List Value) (d : TypeDesc) (hc : ∀ w, C w → ∀ j v, cs[j]? = some v → w.cell? ⟨g, off + j, none⟩ = some v)
    (hu : P.underlying ty = some d) (hd : (match d with | .struct _ | .array _ _ => true | _ => false) = true) (hi : (P.info? ty).map (·.size) = some cs.length) (hw : Region.wanted o (yielded ops a.tmps) = true)
    (h : wpQuiet P ops C Q rest (a.put o.dst (.agg cs.toArray))) : wpQuiet P ops C Q (o :: rest) a :=
  wpQuiet_load_part hw ty x ho g off hx cs d hc hu hd hi h

theorem wpList_store_box {Q : Exit → Act → World → Prop} (hgd : o.guard = none) (ty : TypeId) (x y : Operand) (ho : o.op = .store ty x y) (g : Nat) (cs : List Value) (hx : a.eval x = .pointer (some ⟨g, 0, none⟩)) (hy : a.eval y = .agg cs.toArray)
    (t : TypeId) (cur : Array Value) (hg : w.heap[g]? = some (.cells cur t (0, 0))) (hi : (P.info? ty).map (·.size) = some cs.length) (hn : cur.size = cs.length) (h1 : ∀ v ∈ cs, v.oneCell' = true)
    (h : wpList P ops Q rest (a.put o.dst undef) (w.setRow g cs.toArray)) : wpList P ops Q (o :: rest) a w :=
  wpList_store_row hgd ty x y ho g cs.toArray hx hy t cur hg (by simpa using hi) (by simpa using hn) (Array.all_eq_true_iff_forall_mem.2 fun v hv => h1 v (by simpa using hv)) h

end

theorem blk_row_eq {w : World} {g : Nat} {c cs : Array Value} {t : TypeId} (h : w.heap[g]? = some (.cells c t)) : (w.setRow g cs).heap[g]? = some (.cells cs t) := setRow_heap w g c cs t _ h

theorem blk_row_ne {w : World} {g k : Nat} {cs : Array Value} (h : g ≠ k) : (w.setRow g cs).heap[k]? = w.heap[k]? := setRow_other w g k cs (Ne.symm h)

theorem ex_row_new {w T : World} {g : Nat} {cs : Array Value} (hw : ∃ y, w = plus T y) (hg : T.heap.size ≤ g) : ∃ y, w.setRow g cs = plus T y := by
  obtain ⟨y, rfl⟩ := hw
  apply below_plus
  have hb := plus_below T y
  refine ⟨hb.os, hb.tape, hb.output, by rw [setRow_size]; exact hb.size, fun n hn => ?_⟩
  rw [blk_row_ne (by omega)]
  exact hb.block n hn

section

variable {α : Type} {f : α → List Value} {w T : World} {ao : Option Addr} {n cap c g k : Nat} {l : List α} {e e' : TypeId} {cur cs : Array Value}

theorem Own.row_other (h : Own e c f T w ao n cap l) (hb : w.heap[g]? = some (.cells cur e')) (he : e' ≠ e) : Own e c f T (w.setRow g cs) ao n cap l := by
  refine ⟨h.1, h.2.1, h.2.2.imp id ?_⟩
  rintro ⟨k, cp, cu, h1, h2, h3, h4⟩
  refine ⟨k, cp, cu, h1, h2, ?_, h4⟩
  have hne : g ≠ k := by
    intro e2
    subst e2
    rw [hb] at h3
    cases h3
    exact he rfl
  rw [blk_row_ne hne]
  exact h3

theorem Own.row_out (h : Own e c f T w ao n cap l) (hg : g < T.heap.size) : Own e c f T (w.setRow g cs) ao n cap l := by
  refine ⟨h.1, h.2.1, h.2.2.imp id ?_⟩
  rintro ⟨k, cp, cu, h1, h2, h3, h4⟩
  exact ⟨k, cp, cu, h1, h2, by rw [blk_row_ne (by omega)]; exact h3, h4⟩

theorem flat_len (hc : ∀ x, (f x).length = c) (l : List α) : (l.flatMap f).length = l.length * c := by
  induction l with
  | nil => simp
  | cons x l ih => rw [List.flatMap_cons, List.length_append, ih, hc, List.length_cons, Nat.succ_mul, Nat.add_comm]

theorem flat_set (hc : ∀ x, (f x).length = c) (l : List α) (x : α) : ∀ k, k < l.length → (l.set k x).flatMap f = (l.flatMap f).take (k * c) ++ (f x ++ (l.flatMap f).drop (k * c + c)) := by
  induction l with
  | nil => intro k hk; simp at hk
  | cons y l ih =>
    intro k hk
    cases k with
    | zero => simp [hc y]
    | succ k =>
      have hk' : k < l.length := by simpa using hk
      rw [List.set_cons_succ, List.flatMap_cons, ih k hk', List.flatMap_cons, Nat.succ_mul, List.take_append, hc, List.drop_append, hc, List.take_of_length_le (l := f y) (by rw [hc]; omega), show List.drop (k * c + c + c) (f y) = [] from List.drop_eq_nil_of_le (by rw [hc]; omega), List.append_assoc, List.nil_append,
        show k * c + c - c = k * c by omega, show k * c + c + c - c = k * c + c by omega]

theorem Own.set_row (h : Own e c f T w (some ⟨g, 0, none⟩) n cap l) (hb : w.heap[g]? = some (.cells cur e)) (hk : k < n) (hc : ∀ x, (f x).length = c) (x : α) :
    Own e c f T (w.setRow g (partOf cur (k * c) (f x))) (some ⟨g, 0, none⟩) n cap (l.set k x) ∧ k * c + (f x).length ≤ cur.size := by
  have hlen := h.1
  have hx := hc x
  rcases h.2.2 with ⟨h1, h0⟩ | ⟨g', cp, cu, h1, h2, h3, h4, h5, h6, h7⟩
  · omega
  · simp only [Value.slice.injEq, true_and, Option.some.injEq, Addr.mk.injEq, and_true] at h1
    obtain ⟨rfl, rfl⟩ := h1
    rw [hb] at h3
    cases h3
    have hkc : k * c + c ≤ n * c := by
      have := Nat.mul_le_mul_right c (show k + 1 ≤ n by omega)
      rw [Nat.succ_mul] at this
      exact this
    have hnc : n * c ≤ cur.size := by rw [h6]; exact Nat.mul_le_mul_right _ h4
    refine ⟨⟨by rw [List.length_set]; exact h.1, ?_, .inr ⟨g, cap, _, rfl, h2, blk_row_eq hb, h4, h5, ?_, ?_⟩⟩, by omega⟩
    · rw [flat_len hc, List.length_set, hlen]
    · rw [partOf_size (by omega)]; exact h6
    · rw [flat_set hc l x k (by omega), ← h7]
      unfold partOf
      rw [List.take_append, List.take_append, List.length_take, Array.length_toList, hx]
      have e1 : min (k * c) cur.size = k * c := by omega
      rw [e1, List.take_of_length_le (l := f x) (by rw [hx]; omega), List.take_of_length_le (l := List.take (k * c) cur.toList) (by rw [List.length_take]; omega), List.take_take, show min (k * c) (n * c) = k * c by omega]
      congr 2
      rw [List.take_drop]
      congr 2
      omega

end

end

section


open Go.RowKit Go.ChangeShapes Go.WideShapes Go.ChangeAt

set_option linter.unusedSimpArgs false

set_option linter.unusedVariables false

attribute [local go_sem] plus_size plus_drew dn_set dn_alloc dn_plus plus_dn cell_plus frozen_plus set_plus cell_alloc frozen_alloc set_alloc

theorem name_w {α : Type} {F : α → World → Prop} {a : α} {w : World} (p : World → Prop) (hp : p w) (h : ∀ w', p w' → F a w') : F a w := h w hp

theorem blk_new2 (w : World) (o : Obj) : (w.alloc o).heap[w.heap.size]? = some o := by rw [blk_alloc, if_pos rfl]

theorem blk_old {w : World} {o o' : Obj} {g : Nat} (h : w.heap[g]? = some o) : (w.alloc o').heap[g]? = some o := by rw [blk_alloc, if_neg (by have := blk_lt h; omega)]; exact h

theorem size_alloc (w : World) (o : Obj) : (w.alloc o).heap.size = w.heap.size + 1 := Array.size_push ..

theorem blk_set {w : World} {g i : Nat} {u : Value} {cs : List Value} {t : TypeId} (h : w.heap[g]? = some (.cells cs.toArray t)) : (w.setCell ⟨g, i, none⟩ u).heap[g]? = some (.cells (cs.set i u).toArray t) := by
  rw [blk_set_eq h]
  simp

theorem blk_set_far {w : World} {g k i : Nat} {u : Value} {o : Obj} (h : w.heap[k]? = some o) (hne : g ≠ k) : (w.setCell ⟨g, i, none⟩ u).heap[k]? = some o := by rw [blk_set_ne hne]; exact h

theorem blk_row_far {w : World} {g k : Nat} {cs : Array Value} {o : Obj} (h : w.heap[k]? = some o) (hne : g ≠ k) : (w.setRow g cs).heap[k]? = some o := by rw [blk_row_ne hne]; exact h

theorem cell_of {w : World} {g i : Nat} {cs : List Value} {t : TypeId} {u : Value} (h : w.heap[g]? = some (.cells cs.toArray t)) (hi : cs[i]? = some u) : w.cell? ⟨g, i, none⟩ = some u := cell_blk h (by simpa using hi)

structure NodeOwn (T w : World) (h : NH) (n : Nd) : Prop where
  f : h.f = n.f
  b : NfB n.f
  far : Own 3 1 fI T w h.ao h.n h.cap n.far

theorem NodeOwn.ex {T w w' : World} {h : NH} {n : Nd} (a : NodeOwn T w h n) (hw : ∃ y, w' = plus w y) : NodeOwn T w' h n := ⟨a.f, a.b, a.far.ex hw⟩

theorem NodeOwn.base {T T' w : World} {h : NH} {n : Nd} (a : NodeOwn T w h n) (hT : T'.heap.size ≤ T.heap.size) : NodeOwn T' w h n := ⟨a.f, a.b, a.far.base hT⟩

def farAs (h : NH) (ao : Option Addr) (n cap : Nat) : NH := ⟨h.f, ao, n, cap⟩

theorem far_set (h : NH) (ao : Option Addr) (n cap : Nat) : (fN h).set 17 (.slice ao n cap) = fN (farAs h ao n cap) := rfl

theorem far_at (h : NH) : (fN h)[17]? = some (.slice h.ao h.n h.cap) := rfl

theorem kind_at (h : NH) : (fN h)[0]? = some (.int .u8 h.f.kind) := rfl

def RetNd (w : World) (n : Nd) (e : Ending) (w' : World) : Prop := ∃ h, e = .returned (vN h) ∧ (∃ y, w' = plus w y) ∧ NodeOwn w w' h n

end

section


open Go.RowKit Go.ChangeShapes Go.WideShapes Go.ChangeAt

set_option linter.unusedSimpArgs false

set_option linter.unusedVariables false

attribute [local go_sem] plus_size plus_drew dn_set dn_alloc dn_plus plus_dn cell_plus frozen_plus set_plus cell_alloc frozen_alloc set_alloc

attribute [local go_sem] eqarr_40 nearr_40 larr_40

attribute [local go_sem] eqarr_137 nearr_137 larr_137

attribute [local go_sem] isnil_47

attribute [local go_sem] isnil_57

attribute [local go_sem] isnil_58

attribute [local go_sem] isnil_59

theorem cloneI (ao : Option Addr) (n cap : Nat) (l : List Int) (w : World) (hl : Lay fI w ao n l) (hn : n ≤ 10000) (hz : ao = none → cap = 0) :
    Calls Tryz.prog 83 #[.slice ao n cap] w fun e w' => RetO 3 1 fI w l e w' := by
  cases ao with
  | none =>
    obtain rfl : n = 0 := by rcases hl.at0 with h | ⟨g, off, h, _⟩; exact h; cases h
    obtain rfl := hz rfl
    obtain rfl := hl.zero
    go_enter Tryz.func83, Tryz.ntmps83
    go_wp2
    go_ret
    exact ⟨none, 0, 0, rfl, skM, own_nil⟩
  | some a =>
    go_enter Tryz.func83, Tryz.ntmps83
    go_wp2_with (at_builtin; (refine wpList_append_lay (T := w) (l := []) rfl _ _ rfl kinI fI_c fI_1 rfl skM ⟨rfl, World.ownsRow_made w _ 0 (Nat.le_refl _) (by decide) rfl⟩ rfl (hl.ex skM) (by omega) (by decide) ?_; intro ao' cap' y' hown'))
    go_ret
    rw [Nat.zero_add, List.nil_append] at hown'
    exact ⟨ao', _, cap', rfl, skM, hown'⟩

theorem cloneV (ao : Option Addr) (n cap : Nat) (l : List V3) (w : World) (hl : Lay fV w ao n l) (hn : n ≤ 10000) (hz : ao = none → cap = 0) :
    Calls Tryz.prog 84 #[.slice ao n cap] w fun e w' => RetO 43 3 fV w l e w' := by
  cases ao with
  | none =>
    obtain rfl : n = 0 := by rcases hl.at0 with h | ⟨g, off, h, _⟩; exact h; cases h
    obtain rfl := hz rfl
    obtain rfl := hl.zero
    go_enter Tryz.func84, Tryz.ntmps84
    go_wp2
    go_ret
    exact ⟨none, 0, 0, rfl, skM, own_nil⟩
  | some a =>
    go_enter Tryz.func84, Tryz.ntmps84
    go_wp2_with (at_builtin; (refine wpList_append_lay (T := w) (l := []) rfl _ _ rfl kinV fV_c fV_1 rfl skM ⟨rfl, World.ownsRow_made w _ 0 (Nat.le_refl _) (by decide) rfl⟩ rfl (hl.ex skM) (by omega) (by decide) ?_; intro ao' cap' y' hown'))
    go_ret
    rw [Nat.zero_add, List.nil_append] at hown'
    exact ⟨ao', _, cap', rfl, skM, hown'⟩

theorem clone2 (ao : Option Addr) (n cap : Nat) (l : List (Int × Int)) (w : World) (hl : Lay f2 w ao n l) (hn : n ≤ 10000) (hz : ao = none → cap = 0) :
    Calls Tryz.prog 85 #[.slice ao n cap] w fun e w' => RetO 137 2 f2 w l e w' := by
  cases ao with
  | none =>
    obtain rfl : n = 0 := by rcases hl.at0 with h | ⟨g, off, h, _⟩; exact h; cases h
    obtain rfl := hz rfl
    obtain rfl := hl.zero
    go_enter Tryz.func85, Tryz.ntmps85
    go_wp2
    go_ret
    exact ⟨none, 0, 0, rfl, skM, own_nil⟩
  | some a =>
    go_enter Tryz.func85, Tryz.ntmps85
    go_wp2_with (at_builtin; (refine wpList_append_lay (T := w) (l := []) rfl _ _ rfl kin2 f2_c f2_1 rfl skM ⟨rfl, World.ownsRow_made w _ 0 (Nat.le_refl _) (by decide) rfl⟩ rfl (hl.ex skM) (by omega) (by decide) ?_; intro ao' cap' y' hown'))
    go_ret
    rw [Nat.zero_add, List.nil_append] at hown'
    exact ⟨ao', _, cap', rfl, skM, hown'⟩

end

section


open Go.RowKit Go.ChangeShapes Go.WideShapes Go.ChangeAt

set_option linter.unusedSimpArgs false

set_option linter.unusedVariables false

attribute [local go_sem] plus_size plus_drew dn_set dn_alloc dn_plus plus_dn cell_plus frozen_plus set_plus cell_alloc frozen_alloc set_alloc

attribute [local go_sem] eqarr_40 nearr_40 larr_40

attribute [local go_sem] eqarr_137 nearr_137 larr_137

attribute [local go_sem] isnil_47

attribute [local go_sem] isnil_57

attribute [local go_sem] isnil_58

attribute [local go_sem] isnil_59

def samePr (p q : Pr) : Bool := decide (p.kind = q.kind) && sameI p.ix q.ix

def samePs (l l2 : List Pr) : Bool := sameL samePr dPr l l2

def sameMs (m o : Ms) : Bool := sameV m.vs o.vs && same2 m.uv o.uv && samePs m.ps o.ps

def FewM (hs : List PH) : Prop := ∀ k, k < hs.length → (nth dPH hs k).n ≤ 1000

end

section


open Go.RowKit Go.ChangeShapes Go.WideShapes Go.ChangeAt

set_option linter.unusedSimpArgs false

set_option linter.unusedVariables false

attribute [local go_sem] plus_size plus_drew dn_set dn_alloc dn_plus plus_dn cell_plus frozen_plus set_plus cell_alloc frozen_alloc set_alloc

attribute [local go_sem] eqarr_40 nearr_40 larr_40

attribute [local go_sem] eqarr_137 nearr_137 larr_137

attribute [local go_sem] isnil_47

attribute [local go_sem] isnil_57

attribute [local go_sem] isnil_58

attribute [local go_sem] isnil_59

theorem cloneP (ao : Option Addr) (n cap : Nat) (l : List PH) (w : World) (hl : Lay fP w ao n l) (hn : n ≤ 10000) (hz : ao = none → cap = 0) :
    Calls Tryz.prog 86 #[.slice ao n cap] w fun e w' => RetO 131 2 fP w l e w' := by
  cases ao with
  | none =>
    obtain rfl : n = 0 := by rcases hl.at0 with h | ⟨g, off, h, _⟩; exact h; cases h
    obtain rfl := hz rfl
    obtain rfl := hl.zero
    go_enter Tryz.func86, Tryz.ntmps86
    go_wp2
    go_ret
    exact ⟨none, 0, 0, rfl, skM, own_nil⟩
  | some a =>
    go_enter Tryz.func86, Tryz.ntmps86
    go_wp2_with (at_builtin; (refine wpList_append_lay (T := w) (l := []) rfl _ _ rfl kinP fP_c fP_1 rfl skM ⟨rfl, World.ownsRow_made w _ 0 (Nat.le_refl _) (by decide) rfl⟩ rfl (hl.ex skM) (by omega) (by decide) ?_; intro ao' cap' y' hown'))
    go_ret
    rw [Nat.zero_add, List.nil_append] at hown'
    exact ⟨ao', _, cap', rfl, skM, hown'⟩

def greatBM (vn un pn : Nat) (hs : List PH) : Bool := decide (1000 < vn) || decide (1000 < un) || decide (100 < pn) || hs.any (fun h => decide (1000 < h.n))

end

section


open Go.RowKit Go.ChangeShapes Go.WideShapes Go.ChangeAt Go.Deep

section

variable {H : Type} {enc : TypeId × Value → H} {P : Program} {W : World} {base : Nat} {spare : Nat → Bool} {held : Bool} {f0 f1 g0 : Field} {t e ta : TypeId}

end

end

section


open Go.RowKit Go.ChangeShapes Go.WideShapes Go.ChangeAt Go.Deep

section

variable {H : Type} {enc : TypeId × Value → H} {P : Program} {W : World} {base : Nat} {spare : Nat → Bool} {held : Bool} {f0 f1 g0 s0 s1 : Field} {t e ta tg ts te : TypeId}

def Sm (P : Program) (t : TypeId) (d : DataW H) : Prop := ∀ x, x ∈ d.weights P t → x ≤ reachBytes

structure GrIn (w : World) (ao : Option Addr) (n : Nat) (ko : Option Addr) (kn : Nat) (hs : List RH) (g : Gr) : Prop where
  sl : Lay fS w ao n g.sl
  kh : Lay fR w ko kn hs
  len : hs.length = g.ks.length
  row : ∀ k, k < hs.length → Lay f2 w (nth dRH hs k).ao (nth dRH hs k).n (nth [] g.ks k)
  n1 : n ≤ 9223372036854775807
  n2 : kn ≤ 9223372036854775807
  n3 : ∀ k, k < hs.length → (nth dRH hs k).n ≤ 8796093022208
  n4 : ∀ k, k < hs.length → (nth dRH hs k).n ≤ (nth dRH hs k).cap
  n5 : ∀ k, k < hs.length → (nth dRH hs k).ao = none → (nth dRH hs k).n = 0 ∧ (nth dRH hs k).cap = 0

theorem GrIn.few {w : World} {ao : Option Addr} {n : Nat} {ko : Option Addr} {kn : Nat} {hs : List RH} {g : Gr} (h : GrIn w ao n ko kn hs g) (hg : greatB n kn hs = false) : GrAt w ao n ko kn hs g := by
  obtain ⟨h1, h2, h3⟩ := great_no hg
  refine ⟨h.sl, h.kh, h.len, h.row, by omega, by omega, fun k hk => ?_, h.n4, h.n5⟩
  rw [h.kh.len] at hk
  have := sum_at hs hk
  omega

end

end

section


open Go.RowKit Go.ChangeShapes Go.WideShapes Go.ChangeAt

set_option linter.unusedSimpArgs false

set_option linter.unusedVariables false

attribute [local go_sem] plus_size plus_drew dn_set dn_alloc dn_plus plus_dn cell_plus frozen_plus set_plus cell_alloc frozen_alloc set_alloc

def meshG (hs : List MH) (ps : List (List PH)) (k : Nat) : Bool := greatBM (nth mh0 hs k).vn (nth mh0 hs k).un (nth mh0 hs k).pn (nth [] ps k)

def greatSc (h : SH) (x : SX) : Bool := greatB h.gn h.kn x.gr || (decide (200 < h.nn) || (decide (60 < h.mn) || (decide (60 < h.tn) || (greatT x.th || (x.nh.any (fun q => decide (200 < q.n)) || (List.range x.mh.length).any (meshG x.mh x.ph))))))

end

section


open Go.RowKit Go.ChangeShapes Go.WideShapes Go.ChangeAt

set_option linter.unusedSimpArgs false

set_option linter.unusedVariables false

attribute [local go_sem] plus_size plus_drew dn_set dn_alloc dn_plus plus_dn cell_plus frozen_plus set_plus cell_alloc frozen_alloc set_alloc

attribute [local go_sem] eqCx_refl

attribute [local go_sem] colc_50

attribute [local go_sem] cole_50

attribute [local go_sem] coln_50

end

section


open Go.RowKit Go.ChangeShapes Go.WideShapes Go.ChangeAt

set_option linter.unusedSimpArgs false

set_option linter.unusedVariables false

attribute [local go_sem] plus_size plus_drew dn_set dn_alloc dn_plus plus_dn cell_plus frozen_plus set_plus cell_alloc frozen_alloc set_alloc

def sameTp (a b : Tp) : Bool := sameT a.w a.h a.l b.w b.h b.l

def sameTps (l l2 : List Tp) : Bool := sameL sameTp tp0 l l2

end

section


open Go.RowKit Go.ChangeShapes Go.WideShapes Go.ChangeAt

set_option linter.unusedSimpArgs false

set_option linter.unusedVariables false

attribute [local go_sem] plus_size plus_drew dn_set dn_alloc dn_plus plus_dn cell_plus frozen_plus set_plus cell_alloc frozen_alloc set_alloc

attribute [local go_sem] eqarr_40 nearr_40 larr_40

attribute [local go_sem] eqarr_137 nearr_137 larr_137

attribute [local go_sem] isnil_47

attribute [local go_sem] isnil_57

attribute [local go_sem] isnil_58

attribute [local go_sem] isnil_59

end

section


open Go.RowKit Go.ChangeShapes Go.WideShapes Go.ChangeAt

set_option linter.unusedSimpArgs false

set_option linter.unusedVariables false

attribute [local go_sem] plus_size plus_drew dn_set dn_alloc dn_plus plus_dn cell_plus frozen_plus set_plus cell_alloc frozen_alloc set_alloc

theorem lay_part {α : Type} {f : α → List Value} {d : α} {w : World} {g off n k c : Nat} {l : List α} (hl : l.length = n) (hc : ∀ x, (f x).length = c) (h : ∀ j u, (l.flatMap f)[j]? = some u → w.cell? ⟨g, off + j, none⟩ = some u) (hk : k < n) :
    ∀ j v, (f (nth d l k))[j]? = some v → w.cell? ⟨g, off + k * c + j, none⟩ = some v := by
  intro j v hj
  have hjc : j < c := by rw [← hc (nth d l k)]; exact (List.getElem?_eq_some_iff.1 hj).1
  rw [Nat.add_assoc]
  exact cell_nth (d := d) hl hc h k j v hk hjc hj

def sameNds (l l2 : List Nd) : Bool := sameL sameNd nd0 l l2

def sameMss (l l2 : List Ms) : Bool := sameL sameMs ms0 l l2

def sameSc (a b : Sc) : Bool := sameG a.g b.g && (sameTps a.ts b.ts && (decide (a.root = b.root) && (sameNds a.ns b.ns && sameMss a.ms b.ms)))

structure Small (x : SX) : Prop where
  n : ∀ k, k < x.nh.length → (nth nh0 x.nh k).n ≤ 10000
  m : ∀ k, k < x.mh.length → (nth mh0 x.mh k).vn ≤ 1000 ∧ (nth mh0 x.mh k).un ≤ 1000 ∧ (nth mh0 x.mh k).pn ≤ 100 ∧ FewM (nth [] x.ph k)

end

section


open Go.RowKit

def leafKids (n : Nd) (r : List (Int × Int)) : Bool := decide (n.f.kind = 5) && decide (0 < r.length)

def nodeOk (s : Sc) (k : Nat) : Bool :=
  !(((nth dSl s.g.sl k).live && !mayNd s.ms.length s.ts.length (nth nd0 s.ns k)) || ((!(nth dSl s.g.sl k).live && !sameNd (nth nd0 s.ns k) nd0) || leafKids (nth nd0 s.ns k) (nth [] s.g.ks k)))

def nodesOk (s : Sc) : Bool := (List.range s.ns.length).all (nodeOk s)

def rootOk (s : Sc) (h : Int × Int) : Bool := decide (h = (0, 0)) || heldIn s.g.sl h.1 h.2

def maySc (s : Sc) : Bool := grOk s.g && (decide (s.ns.length = s.g.ks.length) && (storesOk s && (nodesOk s && rootOk s s.root)))

def scErr (s : Sc) : Int := if maySc s then 0 else 8

structure Ed where
  kind : Int
  h : Int × Int
  c : Int × Int
  p : Int
  n : Nd
  m : Ms
  t : Tp

def putAt {α : Type} (l : List α) (k : Nat) (x : α) : List α := if k < l.length then l.set k x else l ++ [x]

def placeErr (at_ : Int) (many most : Nat) (wrong : Int) : Int :=
  if at_ < -1 ∨ (many : Int) ≤ at_ then 2 else if wrong ≠ 0 then wrong else if at_ < 0 ∧ most ≤ many then 9 else 0

def placeAt (at_ : Int) (many : Nat) : Nat := if at_ < 0 then many else at_.toNat

def texErr (t : Tp) : Int := if mayTp t then 0 else 8

def edErr (s : Sc) (e : Ed) : Int :=
  if e.kind = 1 then (if mayNd s.ms.length s.ts.length e.n then makeGErr s.g else 8)
  else if e.kind = 2 then (if heldIn s.g.sl e.h.1 e.h.2 then (if mayNd s.ms.length s.ts.length e.n then (if leafKids e.n (nth [] s.g.ks e.h.1.toNat) then 100 else 0) else 8) else 50)
  else if e.kind = 3 then (if heldIn s.g.sl e.h.1 e.h.2 ∧ heldIn s.g.sl e.c.1 e.c.2 then (if (nth nd0 s.ns e.h.1.toNat).f.kind = 5 then 100 else linkErr s.g e.h e.c e.p) else 50)
  else if e.kind = 4 then unlinkErr s.g e.h e.p
  else if e.kind = 5 then askErr s.g e.h e.h
  else if e.kind = 6 then placeErr e.p s.ms.length 32 (msErr e.m)
  else if e.kind = 7 then placeErr e.p s.ts.length 16 (texErr e.t)
  else if e.kind = 8 then (if rootOk s e.h then 0 else 50)
  else 2

def edSc (s : Sc) (e : Ed) : Sc :=
  if e.kind = 1 then ⟨makeG s.g, putAt s.ns (freeAt s.g.sl) e.n, s.ms, s.ts, s.root⟩
  else if e.kind = 2 then ⟨s.g, s.ns.set e.h.1.toNat e.n, s.ms, s.ts, s.root⟩
  else if e.kind = 3 then ⟨linkG s.g e.h e.c e.p, s.ns, s.ms, s.ts, s.root⟩
  else if e.kind = 4 then ⟨unlinkG s.g e.h e.p, s.ns, s.ms, s.ts, s.root⟩
  else if e.kind = 5 then ⟨killG s.g e.h, s.ns.set e.h.1.toNat nd0, s.ms, s.ts, if s.root = e.h then (0, 0) else s.root⟩
  else if e.kind = 6 then ⟨s.g, s.ns, putAt s.ms (placeAt e.p s.ms.length) e.m, s.ts, s.root⟩
  else if e.kind = 7 then ⟨s.g, s.ns, s.ms, putAt s.ts (placeAt e.p s.ts.length) e.t, s.root⟩
  else ⟨s.g, s.ns, s.ms, s.ts, e.h⟩

def doErr (s : Sc) (e : Ed) : Int := if maySc s then edErr s e else 8

def doSc (s : Sc) (e : Ed) : Sc := if doErr s e = 0 then edSc s e else sc0

def tookH (s : Sc) (e : Ed) : Int × Int := if doErr s e = 0 ∧ e.kind = 1 then (mkSlot s.g.sl, mkGen s.g.sl) else (0, 0)

def tookN (s : Sc) (e : Ed) : Int := if doErr s e = 0 then (if e.kind = 6 then placeAt e.p s.ms.length else if e.kind = 7 then placeAt e.p s.ts.length else 0) else 0

theorem sameI_eq {a b : List Int} (h : sameI a b = true) : a = b := by
  simp only [sameI, sameL, Bool.and_eq_true, beq_iff_eq, List.all_eq_true, List.mem_range] at h
  exact ext_nth (d := 0) h.1 fun k hk => by simpa [eqI] using h.2 k hk

theorem sameNd_eq {a b : Nd} (h : sameNd a b = true) : a = b := by
  obtain ⟨⟨ak, am, ao, ac, ae, ay⟩, af⟩ := a
  obtain ⟨⟨bk, bm, bo, bc, be, by_⟩, bf⟩ := b
  simp only [sameNd, Bool.and_eq_true, decide_eq_true_eq] at h
  obtain ⟨rfl, hm, rfl, hc, hf, rfl, hs⟩ := h
  rw [eqmt_eq hm, eqv_eq hc, sameI_eq hf, eqsy_eq hs]

theorem may_parts {s : Sc} (h : maySc s = true) : grOk s.g = true ∧ s.ns.length = s.g.ks.length ∧ storesOk s = true ∧ (∀ k, k < s.ns.length → nodeOk s k = true) ∧ rootOk s s.root = true := by
  simp only [maySc, nodesOk, Bool.and_eq_true, decide_eq_true_eq, List.all_eq_true, List.mem_range] at h
  exact ⟨h.1, h.2.1, h.2.2.1, h.2.2.2.1, h.2.2.2.2⟩

theorem node_ok {s : Sc} {k : Nat} : nodeOk s k = true ↔ ((nth dSl s.g.sl k).live = true → mayNd s.ms.length s.ts.length (nth nd0 s.ns k) = true) ∧ ((nth dSl s.g.sl k).live = false → nth nd0 s.ns k = nd0) ∧ ((nth nd0 s.ns k).f.kind = 5 → (nth [] s.g.ks k).length = 0) := by
  unfold nodeOk leafKids
  constructor
  · intro h
    simp only [Bool.not_eq_true', Bool.or_eq_false_iff, Bool.and_eq_false_iff, Bool.not_eq_false', decide_eq_false_iff_not] at h
    obtain ⟨h1, h2, h3⟩ := h
    refine ⟨fun e => ?_, fun e => ?_, fun e => ?_⟩
    · rcases h1 with h1 | h1
      · rw [e] at h1; cases h1
      · exact h1
    · rcases h2 with h2 | h2
      · rw [e] at h2; cases h2
      · exact sameNd_eq h2
    · rcases h3 with h3 | h3
      · exact absurd e h3
      · omega
  · rintro ⟨h1, h2, h3⟩
    cases hv : (nth dSl s.g.sl k).live
    · rw [h2 hv, sameNd_refl]
      simp [nd0, nf0]
    · rw [h1 hv]
      by_cases h5 : (nth nd0 s.ns k).f.kind = 5
      · simp [h3 h5]
      · simp [h5]

theorem putAt_len {α : Type} {l : List α} {k : Nat} {x : α} : (putAt l k x).length = if k < l.length then l.length else l.length + 1 := by
  unfold putAt
  split <;> simp

theorem nth_putAt {α : Type} {d x : α} {l : List α} {k j : Nat} (hk : k ≤ l.length) : nth d (putAt l k x) j = if j = k then x else nth d l j := by
  unfold putAt
  split
  · rename_i h
    exact nth_set' h
  · obtain rfl : k = l.length := by omega
    split
    · rename_i e; subst e; rw [nth_append_right (Nat.le_refl _), Nat.sub_self]; rfl
    · by_cases hj : j < l.length
      · rw [nth_append_left hj]
      · rw [nth_ge (l := l) (by omega), nth_ge (by simp; omega)]

theorem stores_parts {s : Sc} (h : storesOk s = true) : (∀ m, m ∈ s.ms → msErr m = 0) ∧ (∀ t, t ∈ s.ts → mayTp t = true) ∧ s.ms.length ≤ 32 ∧ s.ts.length ≤ 16 := by
  simp only [storesOk, Bool.and_eq_true, List.all_eq_true, decide_eq_true_eq, edMsOk] at h
  exact ⟨h.1, h.2.1, h.2.2.1, h.2.2.2⟩

theorem place_ok {at_ : Int} {many most : Nat} {wrong : Int} (h : placeErr at_ many most wrong = 0) : placeAt at_ many ≤ many ∧ wrong = 0 ∧ (placeAt at_ many = many → many < most) := by
  unfold placeErr at h
  split at h
  · cases h
  split at h
  · rename_i h1 h2; exact absurd h h2
  split at h
  · cases h
  rename_i h1 h2 h3
  unfold placeAt
  split
  · exact ⟨Nat.le_refl _, by omega, fun _ => by omega⟩
  · exact ⟨by omega, by omega, fun _ => by omega⟩

end

end Go.Proofs.YtcekcihijdipoaaGreat
