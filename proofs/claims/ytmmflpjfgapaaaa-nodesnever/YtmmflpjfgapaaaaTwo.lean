/- Worlds that part in two blocks alone, each of which is as it was or has got what it is to get: for results that are stored one by one. -/
import Derived.Test.YtmmflpjfgapaaaaRel3
import Derived.Test.YtmmflpjfgapaaaaOwn2
namespace Go.Proofs.Ytmmflpjfgapaaaa
open Go.RowKit

structure Two (b1 : Nat) (o1 : Obj) (b2 : Nat) (o2 : Obj) (w w' : World) : Prop where
  os : w'.os = w.os
  tape : w'.tape = w.tape
  output : w'.output = w.output
  size : w.heap.size ≤ w'.heap.size
  rest : ∀ k, k < w.heap.size → k ≠ b1 → k ≠ b2 → w'.heap[k]? = w.heap[k]?
  one : w'.heap[b1]? = w.heap[b1]? ∨ w'.heap[b1]? = some o1
  two : w'.heap[b2]? = w.heap[b2]? ∨ w'.heap[b2]? = some o2

section
variable {b1 b2 : Nat} {o1 o2 : Obj} {w w1 w2 w3 : World}
theorem two_refl (w : World) : Two b1 o1 b2 o2 w w := ⟨rfl, rfl, rfl, Nat.le_refl _, fun _ _ _ _ => rfl, .inl rfl, .inl rfl⟩
theorem two_draw (w : World) : Two b1 o1 b2 o2 w { w with drawn := w.drawn + 1 } := ⟨rfl, rfl, rfl, Nat.le_refl _, fun _ _ _ _ => rfl, .inl rfl, .inl rfl⟩
theorem two_trans : ∀ w1 w2 w3 : World, Two b1 o1 b2 o2 w1 w2 → Two b1 o1 b2 o2 w2 w3 → Two b1 o1 b2 o2 w1 w3 := by
  intro w1 w2 w3 h1 h2
  refine ⟨h2.os.trans h1.os, h2.tape.trans h1.tape, h2.output.trans h1.output, Nat.le_trans h1.size h2.size, fun k hk n1 n2 => ?_, ?_, ?_⟩
  · rw [h2.rest k (Nat.lt_of_lt_of_le hk h1.size) n1 n2]
    exact h1.rest k hk n1 n2
  · rcases h2.one with e | e
    · rw [e]; exact h1.one
    · exact .inr e
  · rcases h2.two with e | e
    · rw [e]; exact h1.two
    · exact .inr e
theorem two_cell {g i : Nat} {v : Value} (h : Two b1 o1 b2 o2 w w1) (hc : w.cell? ⟨g, i, none⟩ = some v) (n1 : g ≠ b1) (n2 : g ≠ b2) : w1.cell? ⟨g, i, none⟩ = some v := by
  have hg := cell_lt hc
  rw [World.cell?_of_block (w := w) (h.rest g hg n1 n2)]
  exact hc
/-- the block that gets the first is as it was, or has it -/
theorem two_one {o : Obj} (h : Two b1 o1 b2 o2 w w1) (hb : w.heap[b1]? = some o) : w1.heap[b1]? = some o ∨ w1.heap[b1]? = some o1 := by
  rcases h.one with e | e
  · exact .inl (e.trans hb)
  · exact .inr e
theorem two_two {o : Obj} (h : Two b1 o1 b2 o2 w w1) (hb : w.heap[b2]? = some o) : w1.heap[b2]? = some o ∨ w1.heap[b2]? = some o2 := by
  rcases h.two with e | e
  · exact .inl (e.trans hb)
  · exact .inr e
theorem two_set1 {i : Nat} {u : Value} (hne : b1 ≠ b2) (h : (w.setCell ⟨b1, i, none⟩ u).heap[b1]? = some o1) : Two b1 o1 b2 o2 w (w.setCell ⟨b1, i, none⟩ u) :=
  ⟨rfl, rfl, rfl, by rw [size_set]; exact Nat.le_refl _, fun k _ n1 _ => blk_set_ne (fun e => n1 e.symm), .inr h, .inl (blk_set_ne hne)⟩
theorem two_set2 {i j : Nat} {u v : Value} (hne : b1 ≠ b2) (h : ((w.setCell ⟨b2, i, none⟩ u).setCell ⟨b2, j, none⟩ v).heap[b2]? = some o2) : Two b1 o1 b2 o2 w ((w.setCell ⟨b2, i, none⟩ u).setCell ⟨b2, j, none⟩ v) :=
  ⟨rfl, rfl, rfl, by rw [size_set, size_set]; exact Nat.le_refl _, fun k _ _ n2 => (blk_set_ne (fun e => n2 e.symm)).trans (blk_set_ne (fun e => n2 e.symm)), .inl ((blk_set_ne (fun e => hne e.symm)).trans (blk_set_ne (fun e => hne e.symm))), .inr h⟩
theorem two_ex {T : World} (h : Two b1 o1 b2 o2 w w1) (hw : ∃ y, w = plus T y) (h1 : T.heap.size ≤ b1) (h2 : T.heap.size ≤ b2) : ∃ y, w1 = plus T y := by
  obtain ⟨y, rfl⟩ := hw
  apply below_plus
  have hb := plus_below T y
  refine ⟨h.os.trans hb.os, h.tape.trans hb.tape, h.output.trans hb.output, Nat.le_trans hb.size h.size, fun n hn => ?_⟩
  have hlt : n < (plus T y).heap.size := Nat.lt_of_lt_of_le hn hb.size
  rw [h.rest n hlt (by omega) (by omega)]
  exact hb.block n hn
end
theorem Own.two {α : Type} {f : α → List Value} {b1 b2 : Nat} {o1 o2 : Obj} {w w1 T : World} {ao : Option Addr} {n cap c : Nat} {l : List α} {e e1 e2 : TypeId} {c1 c2 : Array Value} (h : Own e c f T w ao n cap l) (ht : Two b1 o1 b2 o2 w w1) (h1 : w.heap[b1]? = some (.cells c1 e1)) (h2 : w.heap[b2]? = some (.cells c2 e2)) (n1 : e1 ≠ e) (n2 : e2 ≠ e) : Own e c f T w1 ao n cap l := by
  refine ⟨h.1, h.2.1, h.2.2.imp id ?_⟩
  rintro ⟨k, cp, cu, a1, a2, a3, a4⟩
  refine ⟨k, cp, cu, a1, a2, ?_, a4⟩
  rw [ht.rest k (blk_lt a3) ?_ ?_]
  · exact a3
  · intro e0
    rw [e0, h1] at a3
    cases a3
    exact n1 rfl
  · intro e0
    rw [e0, h2] at a3
    cases a3
    exact n2 rfl
end Go.Proofs.Ytmmflpjfgapaaaa
