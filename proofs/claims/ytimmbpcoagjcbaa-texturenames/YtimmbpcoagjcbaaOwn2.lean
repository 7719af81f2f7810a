/- Blocks of memory by their numbers, and what a store leaves of lists that lie in other blocks. -/
import Derived.Test.YtimmbpcoagjcbaaSwap
import Derived.Laws.OwnMore
namespace Go.Proofs.Ytimmbpcoagjcbaa
open Go.RowKit

theorem blk_drew (w : World) (g : Nat) : w.drew.heap[g]? = w.heap[g]? := rfl
theorem blk_alloc (w : World) (o : Obj) (g : Nat) : (w.alloc o).heap[g]? = if g = w.heap.size then some o else w.heap[g]? := by
  show (w.heap.push o)[g]? = _
  rw [Array.getElem?_push]
theorem cell_blk {w : World} {g i : Nat} {c : Array Value} {t : TypeId} {u : Value} (h : w.heap[g]? = some (.cells c t)) (hi : c[i]? = some u) : w.cell? ⟨g, i, none⟩ = some u := by
  simp [World.cell?, h, hi]
theorem frozen_blk {w : World} {g i : Nat} {c : Array Value} {t : TypeId} (h : w.heap[g]? = some (.cells c t)) : w.frozen? ⟨g, i, none⟩ = false := by
  simp [World.frozen?, h]
theorem blk_lt {w : World} {g : Nat} {o : Obj} (h : w.heap[g]? = some o) : g < w.heap.size := (Array.getElem?_eq_some_iff.1 h).1
theorem blk_ex {w w' : World} {g : Nat} {o : Obj} (hw : ∃ y, w' = plus w y) (h : w.heap[g]? = some o) : w'.heap[g]? = some o := by
  obtain ⟨y, rfl⟩ := hw
  rw [plus_block _ _ _ (blk_lt h)]
  exact h

theorem blk_set_ne {w : World} {g k i : Nat} {u : Value} (h : g ≠ k) : (w.setCell ⟨g, i, none⟩ u).heap[k]? = w.heap[k]? := by
  unfold World.setCell
  simp [Array.getElem?_modify, h]
theorem blk_set_eq {w : World} {g i : Nat} {u : Value} {c : Array Value} {t : TypeId} (h : w.heap[g]? = some (.cells c t)) : (w.setCell ⟨g, i, none⟩ u).heap[g]? = some (.cells (c.setIfInBounds i u) t) := by
  unfold World.setCell
  simp [Array.getElem?_modify, h]
theorem size_set (w : World) (g i : Nat) (u : Value) : (w.setCell ⟨g, i, none⟩ u).heap.size = w.heap.size := by
  unfold World.setCell
  simp
theorem ex_set_new {w T : World} {g i : Nat} {u : Value} (hw : ∃ y, w = plus T y) (hg : T.heap.size ≤ g) : ∃ y, w.setCell ⟨g, i, none⟩ u = plus T y := by
  obtain ⟨y, rfl⟩ := hw
  apply below_plus
  have hb := plus_below T y
  refine ⟨hb.os, hb.tape, hb.output, by rw [size_set]; exact hb.size, fun n hn => ?_⟩
  rw [blk_set_ne (by omega)]
  exact hb.block n hn

section
variable {α : Type} {f : α → List Value} {w T : World} {ao : Option Addr} {n cap c g i : Nat} {l : List α} {e e' : TypeId} {cur : Array Value} {u : Value}

/-- a store into a block of another type -/
theorem Own.set_other (h : Own e c f T w ao n cap l) (hb : w.heap[g]? = some (.cells cur e')) (he : e' ≠ e) : Own e c f T (w.setCell ⟨g, i, none⟩ u) ao n cap l := by
  refine ⟨h.1, h.2.1, h.2.2.imp id ?_⟩
  rintro ⟨k, cp, cu, h1, h2, h3, h4⟩
  refine ⟨k, cp, cu, h1, h2, ?_, h4⟩
  have hne : g ≠ k := by
    intro e2
    subst e2
    rw [hb] at h3
    cases h3
    exact he rfl
  rw [blk_set_ne hne]
  exact h3

/-- the block of a list that is not empty -/
theorem Own.blk (h : Own e c f T w ao n cap l) (hn : 0 < n) : ∃ g cur, ao = some ⟨g, 0, none⟩ ∧ T.heap.size ≤ g ∧ w.heap[g]? = some (.cells cur e) ∧ n * c ≤ cur.size := by
  rcases h.2.2 with ⟨_, h0⟩ | ⟨k, cp, cu, h1, h2, h3, h4, _, h5, _⟩
  · omega
  · simp only [Value.slice.injEq] at h1
    refine ⟨k, cu, h1.1, h2, h3, ?_⟩
    rw [h5]
    exact Nat.mul_le_mul_right _ h4

theorem Own.set_self (h : Own e c f T w (some ⟨g, 0, none⟩) n cap l) (k j : Nat) (x d : α) (hk : k < n) (hc : ∀ x, (f x).length = c) (hj : j < c) (hx : f x = (f (nth d l k)).set j u) :
    Own e c f T (w.setCell ⟨g, k * c + j, none⟩ u) (some ⟨g, 0, none⟩) n cap (l.set k x) := by
  have h2 := World.ownsRow.stored h.2 (k * c + j) u
  refine ⟨by rw [List.length_set]; exact h.1, ?_⟩
  have e1 : (l.set k x).flatMap f = (l.flatMap f).set (k * c + j) u := by
    have hkl : k < l.length := by rw [h.1]; exact hk
    apply List.ext_getElem?
    intro q
    by_cases hq : q < n * c
    · have hc0 : 0 < c := by omega
      have hqn : q / c < n := (Nat.div_lt_iff_lt_mul hc0).2 hq
      have e2 : q / c * c + q % c = q := by rw [Nat.mul_comm]; exact Nat.div_add_mod q c
      have hqm := Nat.mod_lt q hc0
      rw [List.getElem?_set]
      have e3 : ((l.set k x).flatMap f)[q]? = (f ((l.set k x)[q / c]'(by rw [List.length_set, h.1]; exact hqn)))[q % c]? := by
        have := flat_at hc (l.set k x) (q / c) (by rw [List.length_set, h.1]; exact hqn) (q % c) hqm
        rwa [e2] at this
      have e4 : (l.flatMap f)[q]? = (f (l[q / c]'(by rw [h.1]; exact hqn)))[q % c]? := by
        have := flat_at hc l (q / c) (by rw [h.1]; exact hqn) (q % c) hqm
        rwa [e2] at this
      rw [e3, e4, List.getElem_set]
      by_cases ek : k = q / c
      · rw [if_pos ek, hx, List.getElem?_set]
        have e5 : nth d l k = l[q / c]'(by rw [h.1]; exact hqn) := by
          subst ek
          rw [nth_eq hkl]
        rw [e5]
        have hlen : j < (f (l[q / c]'(by rw [h.1]; exact hqn))).length := by rw [hc]; exact hj
        have hlen2 : k * c + j < (l.flatMap f).length := by
          rw [flat_length hc, h.1]
          have : k * c + j < (k + 1) * c := by rw [Nat.succ_mul]; omega
          exact Nat.lt_of_lt_of_le this (Nat.mul_le_mul_right c hk)
        by_cases ej : j = q % c
        · rw [if_pos ej, if_pos hlen, if_pos (show k * c + j = q by rw [ek, ej]; exact e2), if_pos hlen2]
        · rw [if_neg ej, if_neg (by rw [ek]; intro e6; exact ej (Nat.add_left_cancel (e6.trans e2.symm)))]
      · rw [if_neg ek, if_neg]
        intro e6
        apply ek
        rw [← e6, Nat.add_comm, Nat.add_mul_div_right _ _ hc0, Nat.div_eq_of_lt hj, Nat.zero_add]
    · rw [List.getElem?_eq_none (by rw [flat_length hc, List.length_set, h.1]; omega), List.getElem?_eq_none (by rw [List.length_set, flat_length hc, h.1]; omega)]
  rw [e1]
  exact h2.1

/-- a store into a block that was made later -/
theorem Own.set_new {w' : World} {q : Nat} (h : Own e c f T w ao n cap l) (hw : ∃ y, w' = Go.Proofs.Ytimmbpcoagjcbaa.plus w y) (hq : w.heap.size ≤ q) : Own e c f T (w'.setCell ⟨q, i, none⟩ u) ao n cap l := by
  refine ⟨h.1, h.2.1, h.2.2.imp id ?_⟩
  rintro ⟨k, cp, cu, h1, h2, h3, h4⟩
  refine ⟨k, cp, cu, h1, h2, ?_, h4⟩
  have := blk_lt h3
  rw [blk_set_ne (by omega)]
  exact blk_ex hw h3

theorem Own.none_zero (h : Own e c f T w ao n cap l) : ao = none → n = 0 ∧ cap = 0 := by
  intro e0
  rcases h.2.2 with ⟨h1, h0⟩ | ⟨k, cp, cu, h1, _⟩
  · simp only [Value.slice.injEq] at h1
    exact ⟨h0, h1.2.2⟩
  · simp only [Value.slice.injEq, e0] at h1
    cases h1.1
theorem nth_set {d x : α} {k j : Nat} (hk : k < l.length) : nth d (l.set k x) j = if j = k then x else nth d l j := by
  unfold nth
  by_cases e : j = k
  · subst e
    simp [hk]
  · have e' : ¬ k = j := fun h => e h.symm
    simp [e, e']
end
end Go.Proofs.Ytimmbpcoagjcbaa
