/- make and copy, over lists in memory that the call itself made. -/
import Derived.Test.YtmmflpjfgapaaaaOwn2
import Derived.Laws.CopyRow
import Derived.Laws.MakeOwn
namespace Go.Proofs.Ytmmflpjfgapaaaa
open Go.RowKit
set_option linter.unusedSimpArgs false

section
variable {α : Type} {f : α → List Value} {P : Program} {w W : World} {ao : Option Addr} {n m cap c c2 b g o0 : Nat} {l : List α} {e t t2 : TypeId} {cur : Array Value}

/-- what copy makes of a block -/
theorem run_copy_lay {ty : TypeId} (hk : Kin P t e c b) (hc : ∀ x, (f x).length = c) (h1 : ∀ x, ∀ u ∈ f x, u.oneCell' = true) (hg : w.heap[g]? = some (.cells cur e)) (hl : Lay f w ao m l) (hmn : m ≤ n) (hfit : o0 + m * c ≤ cur.size) :
    (Builtin.copy_ #[t, t2] ty #[.slice (some ⟨g, o0, none⟩) n cap, .slice ao m c2]).run P w = .ok (goInt m) (w.setRow g (cur.toList.take o0 ++ l.flatMap f ++ cur.toList.drop (o0 + m * c)).toArray) := by
  obtain ⟨i, z, hi, _, hz1, _, _⟩ := hk.info
  have hlen : (l.flatMap f).length = m * c := by rw [flat_length hc, hl.len]
  have hst := run_storeCells_at P g o0 e (l.flatMap f) 0 cur w hg (by rw [hlen]; simpa using hfit) (flat_one h1 l)
  rw [hlen] at hst
  have hmin : Nat.min m n = m := Nat.min_eq_left hmn
  by_cases h0 : m = 0
  · subst h0
    obtain rfl := hl.zero
    simp only [List.flatMap_nil, Nat.zero_mul, Nat.add_zero] at hst ⊢
    cases ao with
    | none => simp [Builtin.copy_, run_underlying hk.und, Builtin.lenOf, Builtin.firstCells, sizeOf, typeInfo, hi, hz1, hst]
    | some a0 => simp [Builtin.copy_, run_underlying hk.und, Builtin.lenOf, Builtin.firstCells, sizeOf, typeInfo, hi, hz1, hst, loadCells, loadCellsFrom]
  · obtain ⟨g2, off, rfl, hg2, hcell⟩ := hl.some (by omega)
    have hld := run_loadCells_list (P := P) w ⟨g2, off, none⟩ (l.flatMap f) (fun j u hu => by have hadd : (⟨g2, off, none⟩ : Addr).add j = ⟨g2, off + j, none⟩ := (by unfold Addr.add; split <;> simp_all); rw [hadd]; exact hcell j u hu)
    rw [hlen] at hld
    simp only [Nat.add_zero] at hst
    simp [Builtin.copy_, run_underlying hk.und, Builtin.lenOf, Builtin.firstCells, sizeOf, typeInfo, hi, hz1, hmin, hld, hst]

theorem setRow_alloc (W : World) (cur cs : Array Value) (e : TypeId) : (W.alloc (.cells cur e)).setRow W.heap.size cs = W.alloc (.cells cs e) := by
  unfold World.setRow World.alloc
  congr 1
  apply Array.ext_getElem?
  intro k
  simp only [Array.getElem?_modify, Array.getElem?_push]
  by_cases h : W.heap.size = k
  · subst h; simp
  · have h' : ¬ k = W.heap.size := fun e => h e.symm
    simp [h, h']
theorem setRow_alloc_past (W : World) (ob : Obj) (cs : Array Value) (h : g < W.heap.size) : (W.alloc ob).setRow g cs = (W.setRow g cs).alloc ob := by
  unfold World.setRow World.alloc
  congr 1
  apply Array.ext_getElem?
  intro k
  simp only [Array.getElem?_modify, Array.getElem?_push, Array.size_modify]
  by_cases hk : g = k
  · subst hk
    have : ¬ g = W.heap.size := by omega
    simp [this]
  · simp [hk]

/-- copy into the row that was made just ahead of one more block: the whole row -/
theorem run_copy_new {ob : Obj} {ty : TypeId} (hk : Kin P t e c b) (hc : ∀ x, (f x).length = c) (h1 : ∀ x, ∀ u ∈ f x, u.oneCell' = true) (hg : g = W.heap.size) (hl : Lay f ((W.alloc (.cells cur e)).alloc ob) ao n l) (hsz : cur.size = n * c) :
    (Builtin.copy_ #[t, t2] ty #[.slice (some ⟨g, 0, none⟩) n cap, .slice ao n c2]).run P ((W.alloc (.cells cur e)).alloc ob) = .ok (goInt n) ((W.alloc (.cells (l.flatMap f).toArray e)).alloc ob) := by
  subst hg
  have hb : ((W.alloc (.cells cur e)).alloc ob).heap[W.heap.size]? = some (.cells cur e) := by
    rw [blk_alloc, if_neg (by simp), blk_alloc, if_pos rfl]
  have hrun := run_copy_lay (t2 := t2) (ty := ty) (cap := cap) (c2 := c2) (o0 := 0) hk hc h1 hb hl (Nat.le_refl _) (by omega)
  rw [setRow_alloc_past _ _ _ (by simp), setRow_alloc] at hrun
  simp only [List.take_zero, List.nil_append, Nat.zero_add] at hrun
  rw [List.drop_eq_nil_of_le (by simp; omega), List.append_nil] at hrun
  exact hrun

/-- a row that was made, whole -/
theorem own_row {T : World} (hl : l.length = n) (hc : ∀ x, (f x).length = c) (hg : w.heap[g]? = some (.cells (l.flatMap f).toArray e)) (hT : T.heap.size ≤ g) (hn : n ≤ maxLen) : Own e c f T w (some ⟨g, 0, none⟩) n n l := by
  have hlen : (l.flatMap f).length = n * c := by rw [flat_length hc, hl]
  exact ⟨hl, hlen, .inr ⟨g, n, _, rfl, hT, hg, Nat.le_refl _, hn, by simpa using hlen, List.take_of_length_le (Nat.le_of_eq hlen)⟩⟩

theorem run_make_lay (hk : ∃ i z, P.info? e = some i ∧ i.zero = some z ∧ i.size = c ∧ i.bytes = b ∧ z.cells.size = c) (hu : P.underlying t = some (.slice e)) (n : Nat) (hn : n ≤ 100000) (hb : b ≤ 100000) : ∃ cur : Array Value, cur.size = n * c ∧ ∀ w : World, (Instr.makeSlice t (.int .i64 n) (.int .i64 n)).run P w = .ok (.slice (some ⟨w.heap.size, 0, none⟩) n n) (w.alloc (.cells cur e)) := by
  obtain ⟨i, z, hi, hz, hz1, hz2, _⟩ := hk
  refine ⟨madeCells z.cells (n * c), size_madeCells _ _, fun w => ?_⟩
  have hb1 : i.bytes * n ≤ 281474976710656 := by
    rw [hz2]
    exact Nat.le_trans (Nat.mul_le_mul hb hn) (by decide)
  have h := run_make w t e i z hu hi hz .i64 .i64 n n (by omega) (Int.le_refl _) (by rw [← Int.natCast_mul]; omega) (by omega)
  rw [Int.toNat_natCast, hz1] at h
  exact h
end
end Go.Proofs.Ytmmflpjfgapaaaa
