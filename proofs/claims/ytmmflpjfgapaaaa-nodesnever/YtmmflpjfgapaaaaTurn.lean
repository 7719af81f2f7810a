/- Worlds in which one operation of a region may write one block, and all else only makes new memory. -/
import Derived.Test.YtmmflpjfgapaaaaRel4
import Derived.Test.YtmmflpjfgapaaaaLay2
namespace Go.Proofs.Ytmmflpjfgapaaaa
open Go.RowKit

/-- d: the operation that may write; gb: the block that it may write -/
structure Turn (d : Nat) (gb : Option Nat) (D : Nat → Bool) (w : World) (D' : Nat → Bool) (w' : World) : Prop where
  mono : D d = true → D' d = true
  grow : w.grownBy w' gb
  same : D d = D' d → ∀ k, k < w.heap.size → w'.heap[k]? = w.heap[k]?

section
variable {d : Nat} {gb : Option Nat} {D D' : Nat → Bool} {w w' : World}
theorem turn_trans : ∀ D1 w1 D2 w2 D3 w3, Turn d gb D1 w1 D2 w2 → Turn d gb D2 w2 D3 w3 → Turn d gb D1 w1 D3 w3 := by
  intro D1 w1 D2 w2 D3 w3 h1 h2
  refine ⟨fun h => h2.mono (h1.mono h), ⟨h2.grow.os.trans h1.grow.os, h2.grow.tape.trans h1.grow.tape, h2.grow.output.trans h1.grow.output, Nat.le_trans h1.grow.size h2.grow.size, fun k hk hne => (h2.grow.block k (Nat.lt_of_lt_of_le hk h1.grow.size) hne).trans (h1.grow.block k hk hne)⟩, fun h k hk => ?_⟩
  have e : D1 d = D2 d ∧ D2 d = D3 d := by
    cases e1 : D1 d with
    | true =>
      have e2 := h1.mono e1
      exact ⟨e2.symm, by rw [e2, ← h, e1]⟩
    | false =>
      cases e2 : D2 d with
      | false => exact ⟨rfl, by rw [← h, e1]⟩
      | true =>
        have e3 := h2.mono e2
        rw [← h, e1] at e3
        cases e3
  exact (h2.same e.2 k (Nat.lt_of_lt_of_le hk h1.grow.size)).trans (h1.same e.1 k hk)
theorem turn_draw (w : World) : Turn d gb noneYet w noneYet { w with drawn := w.drawn + 1 } := ⟨id, ⟨rfl, rfl, rfl, Nat.le_refl _, fun _ _ _ => rfl⟩, fun _ _ _ => rfl⟩
theorem also_mono' {i j : Nat} (h : D j = true) : also D i j = true := by simp [also, h]
theorem also_self' (i : Nat) : also D i i = true := by simp [also]
theorem also_ne {i j : Nat} (h : i ≠ j) : also D i j = D j := by
  have h' : ¬ j = i := fun e => h e.symm
  simp [also, h']
theorem turn_grow {i : Nat} (h : ∃ x, w' = plus w x) : Turn d gb D w (also D i) w' := by
  obtain ⟨x, rfl⟩ := h
  have hb := plus_below w x
  exact ⟨also_mono', ⟨hb.os, hb.tape, hb.output, hb.size, fun k hk _ => hb.block k hk⟩, fun _ k hk => hb.block k hk⟩
theorem turn_do (hg : w.grownBy w' gb) (hD : D d = false) : Turn d gb D w (also D d) w' :=
  ⟨also_mono', hg, fun h => by rw [hD, also_self'] at h; cases h⟩
theorem turn_blk {k : Nat} {o : Obj} (h : Turn d gb D w D' w') (hne : some k ≠ gb) (hk : w.heap[k]? = some o) : w'.heap[k]? = some o := by
  rw [h.grow.block k (blk_lt hk) hne]
  exact hk
theorem turn_still {k : Nat} {o : Obj} (h : Turn d gb D w D' w') (hd : D d = D' d) (hk : w.heap[k]? = some o) : w'.heap[k]? = some o := by
  rw [h.same hd k (blk_lt hk)]
  exact hk
/-- ahead of the operation all has stayed -/
theorem turn_ahead (h : Turn d gb noneYet w D w') (hD : D d = false) : ∃ x, w' = plus w x :=
  below_plus ⟨h.grow.os, h.grow.tape, h.grow.output, h.grow.size, fun k hk => h.same (by rw [hD]; rfl) k hk⟩
theorem turn_ex {T : World} (h : Turn d gb D w D' w') (hw : ∃ y, w = plus T y) (hB : ∀ k, gb = some k → T.heap.size ≤ k) : ∃ y, w' = plus T y := by
  obtain ⟨y, rfl⟩ := hw
  apply below_plus
  have hb := plus_below T y
  refine ⟨h.grow.os.trans hb.os, h.grow.tape.trans hb.tape, h.grow.output.trans hb.output, Nat.le_trans hb.size h.grow.size, fun n hn => ?_⟩
  rw [h.grow.block n (Nat.lt_of_lt_of_le hn hb.size) (fun e => by have := hB n e.symm; omega)]
  exact hb.block n hn
end
section
variable {α : Type} {f : α → List Value} {T w w' : World} {ao : Option Addr} {n cap c : Nat} {l : List α} {e : TypeId} {gb : Option Nat}
/-- a list that lies in another block stays -/
theorem own_grown (h : Own e c f T w ao n cap l) (hg : w.grownBy w' gb) (hne : ∀ a, ao = some a → some a.block ≠ gb) : Own e c f T w' ao n cap l := by
  refine ⟨h.1, h.2.1, h.2.2.imp id ?_⟩
  rintro ⟨k, cp, cu, a1, a2, a3, a4⟩
  refine ⟨k, cp, cu, a1, a2, ?_, a4⟩
  rw [hg.block k (blk_lt a3) ?_]
  · exact a3
  · simp only [Value.slice.injEq] at a1
    exact hne _ a1.1
theorem own_grown_ty {e' : TypeId} {cur : Array Value} {k : Nat} (h : Own e c f T w ao n cap l) (hg : w.grownBy w' (some k)) (hb : w.heap[k]? = some (.cells cur e')) (hne : e' ≠ e) : Own e c f T w' ao n cap l := by
  refine ⟨h.1, h.2.1, h.2.2.imp id ?_⟩
  rintro ⟨q, cp, cu, a1, a2, a3, a4⟩
  refine ⟨q, cp, cu, a1, a2, ?_, a4⟩
  rw [hg.block q (blk_lt a3) ?_]
  · exact a3
  · intro e0
    cases e0
    rw [hb] at a3
    cases a3
    exact hne rfl
theorem own_turn {d : Nat} {D D' : Nat → Bool} (h : Own e c f T w ao n cap l) (ht : Turn d gb D w D' w') (hD : D d = true) : Own e c f T w' ao n cap l := by
  refine ⟨h.1, h.2.1, h.2.2.imp id ?_⟩
  rintro ⟨k, cp, cu, a1, a2, a3, a4⟩
  refine ⟨k, cp, cu, a1, a2, ?_, a4⟩
  rw [ht.same (by rw [hD, ht.mono hD]) k (blk_lt a3)]
  exact a3
end
end Go.Proofs.Ytmmflpjfgapaaaa
