/- Worlds in which what the region itself made may get its contents by one operation, and nothing else changes. -/
import Derived.Test.YtfeiggldjajmbaaRel4
import Derived.Test.YtfeiggldjajmbaaOwn2
namespace Go.Proofs.Ytfeiggldjajmbaa
open Go.RowKit

/-- d: the operation that stores; B: blocks from there on are the region's own; z0: what lies there ahead of it -/
structure Fill (d B : Nat) (z0 : Value) (ty : TypeId) (D : Nat → Bool) (w : World) (D' : Nat → Bool) (w' : World) : Prop where
  mono : D d = true → D' d = true
  os : w'.os = w.os
  tape : w'.tape = w.tape
  output : w'.output = w.output
  size : w.heap.size ≤ w'.heap.size
  blk : ∀ k, k < w.heap.size → w'.heap[k]? = w.heap[k]? ∨ (B ≤ k ∧ D d = false ∧ D' d = true ∧ w.heap[k]? = some (.cells #[z0] ty) ∧ ∃ c : Value, w'.heap[k]? = some (.cells #[c] ty))

section
variable {d B : Nat} {z0 : Value} {ty : TypeId} {D D' : Nat → Bool} {w w' : World}
theorem fill_trans : ∀ D1 w1 D2 w2 D3 w3, Fill d B z0 ty D1 w1 D2 w2 → Fill d B z0 ty D2 w2 D3 w3 → Fill d B z0 ty D1 w1 D3 w3 := by
  intro D1 w1 D2 w2 D3 w3 h1 h2
  refine ⟨fun h => h2.mono (h1.mono h), h2.os.trans h1.os, h2.tape.trans h1.tape, h2.output.trans h1.output, Nat.le_trans h1.size h2.size, fun k hk => ?_⟩
  rcases h1.blk k hk with e | ⟨a1, a2, a3, a4, a5⟩
  · rcases h2.blk k (Nat.lt_of_lt_of_le hk h1.size) with e' | ⟨b1, b2, b3, b4, b5⟩
    · exact .inl (e'.trans e)
    · refine .inr ⟨b1, ?_, b3, e ▸ b4, b5⟩
      cases h : D1 d with
      | false => rfl
      | true => rw [h1.mono h] at b2; cases b2
  · rcases h2.blk k (Nat.lt_of_lt_of_le hk h1.size) with e' | ⟨b1, b2, b3, b4, b5⟩
    · exact .inr ⟨a1, a2, h2.mono a3, a4, by rw [e']; exact a5⟩
    · rw [a3] at b2; cases b2
theorem fill_draw (w : World) : Fill d B z0 ty noneYet w noneYet { w with drawn := w.drawn + 1 } := ⟨id, rfl, rfl, rfl, Nat.le_refl _, fun _ _ => .inl rfl⟩
theorem also_mono {i j : Nat} (h : D j = true) : also D i j = true := by simp [also, h]
theorem also_self (i : Nat) : also D i i = true := by simp [also]
theorem fill_grow {i : Nat} (h : ∃ x, w' = plus w x) : Fill d B z0 ty D w (also D i) w' := by
  obtain ⟨x, rfl⟩ := h
  have hb := plus_below w x
  exact ⟨also_mono, hb.os, hb.tape, hb.output, hb.size, fun k hk => .inl (hb.block k hk)⟩
theorem fill_ex {T : World} (h : Fill d B z0 ty D w D' w') (hw : ∃ y, w = plus T y) (hB : T.heap.size ≤ B) : ∃ y, w' = plus T y := by
  obtain ⟨y, rfl⟩ := hw
  apply below_plus
  have hb := plus_below T y
  refine ⟨h.os.trans hb.os, h.tape.trans hb.tape, h.output.trans hb.output, Nat.le_trans hb.size h.size, fun n hn => ?_⟩
  rcases h.blk n (Nat.lt_of_lt_of_le hn hb.size) with e | ⟨h1, _⟩
  · rw [e]; exact hb.block n hn
  · omega
theorem fill_kept {k : Nat} {o : Obj} (h : Fill d B z0 ty D w D' w') (hd : D d = true) (hk : w.heap[k]? = some o) : w'.heap[k]? = some o := by
  rcases h.blk k (blk_lt hk) with e | ⟨_, h2, _⟩
  · rw [e]; exact hk
  · rw [hd] at h2; cases h2
theorem fill_still {k : Nat} {o : Obj} (h : Fill d B z0 ty D w D' w') (hd : D' d = false) (hk : w.heap[k]? = some o) : w'.heap[k]? = some o := by
  rcases h.blk k (blk_lt hk) with e | ⟨_, _, h3, _⟩
  · rw [e]; exact hk
  · rw [hd] at h3; cases h3
theorem fill_not (h : Fill d B z0 ty D w D' w') (hd : D' d = false) : D d = false := by
  cases h1 : D d with
  | false => rfl
  | true => rw [h.mono h1] at hd; cases hd
theorem fill_set {p : Nat} {u : Value} (hd : D d = false) (hB : B ≤ p) (hz : w.heap[p]? = some (.cells #[z0] ty)) : Fill d B z0 ty D w (also D d) (w.setCell ⟨p, 0, none⟩ u) := by
  refine ⟨also_mono, rfl, rfl, rfl, by rw [size_set]; exact Nat.le_refl _, fun k _ => ?_⟩
  by_cases e : p = k
  · subst e
    exact .inr ⟨hB, hd, also_self d, hz, u, blk_set_eq hz⟩
  · exact .inl (blk_set_ne e)
end
theorem Own.fill {α : Type} {f : α → List Value} {d B : Nat} {z0 : Value} {D D' : Nat → Bool} {w w' T : World} {ao : Option Addr} {n cap c : Nat} {l : List α} {e ty : TypeId} (h : Own e c f T w ao n cap l) (ht : Fill d B z0 ty D w D' w') (hne : ty ≠ e) : Own e c f T w' ao n cap l := by
  refine ⟨h.1, h.2.1, h.2.2.imp id ?_⟩
  rintro ⟨k, cp, cu, a1, a2, a3, a4⟩
  refine ⟨k, cp, cu, a1, a2, ?_, a4⟩
  rcases ht.blk k (blk_lt a3) with e1 | ⟨_, _, _, h4, _⟩
  · rw [e1]; exact a3
  · rw [a3] at h4
    cases h4
    exact absurd rfl hne
end Go.Proofs.Ytfeiggldjajmbaa
