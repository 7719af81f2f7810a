/- An argument that is a slice whose elements are numbers all through: opened into its numbers, with their bounds; a list of points. -/
import Derived.Test.YtondjoilcpcneaaFlat
import Derived.Test.YtondjoilcpcneaaBoxL
import Derived.Deep.Slices
namespace Go.Proofs.Ytondjoilcpcneaa
open Go.RowKit Go.ChangeShapes Go.WideShapes Go.ChangeAt

theorem addr_none {w : World} {a : Addr} {v : Value} (h : w.cell? a = some v) : a = ⟨a.block, a.off, none⟩ ∧ a.block < w.heap.size := by
  unfold World.cell? at h
  split at h
  · rename_i c e f hb
    split at h
    · cases h
    · rename_i hs
      refine ⟨?_, (Array.getElem?_eq_some_iff.1 hb).1⟩
      obtain ⟨b, o, s⟩ := a
      cases s with
      | none => rfl
      | some _ => simp at hs
  · cases h

theorem add_none (g o j : Nat) : (⟨g, o, none⟩ : Addr).add j = ⟨g, o + j, none⟩ := by
  unfold Addr.add
  split <;> simp_all

section
variable {H : Type} {enc : TypeId × Value → H} {P : Program} {W : World} {base : Nat} {spare : Nat → Bool} {held : Bool}

theorem open_flats {k c : Nat} {r : Reach} {b0 : Nat} {t e : TypeId} {v : Value} {d : DataW H} {p : List MemPlace} (ht : P.underlying t = some (.slice e)) (hf : flatB P k e = true) (hc : P.cellsOf e = c) (hc0 : 0 < c)
    (hv : Value.okWide P W r b0 t v) (h : DataW.Trod enc P W base spare held t v d p) :
    ∃ (ao : Option Addr) (n cap : Nat), v = .slice ao n cap ∧ n ≤ 9223372036854775807 ∧ (n = 0 ∨ ∃ g off, ao = some ⟨g, off, none⟩ ∧ g < W.heap.size ∧
      ∀ i, i < n → ∀ j, j < c → ∃ z : Int, W.cell? ⟨g, off + i * c + j, none⟩ = some (.int .i64 z) ∧ -9223372036854775808 ≤ z ∧ z ≤ 9223372036854775807) := by
  have hv1 : v.cells = #[v] := by
    unfold Value.okWide at hv
    simp only [ht] at hv
    unfold Cell.okWide Cell.ok at hv
    cases v <;> simp_all [Value.cells]
  obtain ⟨fuel, hx⟩ := h
  rw [hv1] at hx
  rcases Go.Deep.open_slice ht hx with ⟨h0, _⟩ | ⟨a, len, cap, m, n, D, Pl, h0, hb, hl, hm, hmm, _, hall⟩
  · obtain rfl : v = .slice none 0 0 := by simpa using h0
    exact ⟨none, 0, 0, rfl, by decide, .inl rfl⟩
  · obtain rfl : v = .slice (some a) len cap := by simpa using h0
    refine ⟨some a, len, cap, rfl, by unfold maxLen at hm; omega, ?_⟩
    by_cases hz : len = 0
    · exact .inl hz
    right
    have hlm : len ≤ m := by rw [hmm]; split <;> omega
    obtain ⟨cs0, hc1, _⟩ := hall 0 (by omega)
    rw [hc] at hc1
    obtain ⟨_, hl1, hcell⟩ := World.cells?_some hc1
    have hcell0 := hcell 0 hc0
    rw [List.getElem?_eq_getElem (by omega)] at hcell0
    simp only [Nat.zero_mul, Addr.add, if_true] at hcell0
    obtain ⟨ea, hlt⟩ := addr_none hcell0
    refine ⟨a.block, a.off, by rw [← ea], hlt, fun i hi j hj => ?_⟩
    obtain ⟨cs, hc2, htr⟩ := hall i (by omega)
    rw [hc] at hc2
    obtain ⟨_, hl2, hcell2⟩ := World.cells?_some hc2
    have hcj := hcell2 j hj
    rw [List.getElem?_eq_getElem (by omega), ea, add_none, add_none] at hcj
    obtain ⟨z, ez, hz⟩ := flat_ints k e n cs _ hf htr cs[j] (List.getElem_mem _)
    exact ⟨z, by rw [hcj, ez], hz⟩
end

theorem points_of {W : World} {g off n : Nat} (hg : g < W.heap.size) (h : ∀ i, i < n → ∀ j, j < 3 → ∃ z : Int, W.cell? ⟨g, off + i * 3 + j, none⟩ = some (.int .i64 z) ∧ -9223372036854775808 ≤ z ∧ z ≤ 9223372036854775807) : ∃ q : Nat → V3, Lies W g off n q := by
  have h' : ∀ i, ∃ v : V3, i < n → W.cell? ⟨g, off + i * 3, none⟩ = some (.int .i64 v.x) ∧ W.cell? ⟨g, off + i * 3 + 1, none⟩ = some (.int .i64 v.y) ∧ W.cell? ⟨g, off + i * 3 + 2, none⟩ = some (.int .i64 v.z) := by
    intro i
    by_cases hi : i < n
    · obtain ⟨x, hx, _⟩ := h i hi 0 (by decide)
      obtain ⟨y, hy, _⟩ := h i hi 1 (by decide)
      obtain ⟨z, hz, _⟩ := h i hi 2 (by decide)
      exact ⟨⟨x, y, z⟩, fun _ => ⟨hx, hy, hz⟩⟩
    · exact ⟨⟨0, 0, 0⟩, fun h => absurd h hi⟩
  exact ⟨fun i => Classical.choose (h' i), hg, fun i hi => Classical.choose_spec (h' i) hi⟩

theorem pts_arg {W : World} {ao : Option Addr} {n : Nat} (h : n = 0 ∨ ∃ g off, ao = some ⟨g, off, none⟩ ∧ g < W.heap.size ∧ ∀ i, i < n → ∀ j, j < 3 → ∃ z : Int, W.cell? ⟨g, off + i * 3 + j, none⟩ = some (.int .i64 z) ∧ -9223372036854775808 ≤ z ∧ z ≤ 9223372036854775807) :
    ∃ q : Nat → V3, n = 0 ∨ ∃ g off, ao = some ⟨g, off, none⟩ ∧ Lies W g off n q := by
  rcases h with h | ⟨g, off, e, hg, h⟩
  · exact ⟨fun _ => ⟨0, 0, 0⟩, .inl h⟩
  · obtain ⟨q, hq⟩ := points_of hg h
    exact ⟨q, .inr ⟨g, off, e, hq⟩⟩

end Go.Proofs.Ytondjoilcpcneaa
