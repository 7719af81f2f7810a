/- An argument that is, or holds, slices: opened into lists that lie in memory. -/
import Derived.Test.YtimmbpcoagjcbaaFlat
import Derived.Test.YtimmbpcoagjcbaaMeshMath
import Derived.Deep.Slices
namespace Go.Proofs.Ytimmbpcoagjcbaa
open Go.RowKit Go.ChangeShapes Go.WideShapes Go.ChangeAt

theorem addr_none {w : World} {a : Addr} {v : Value} (h : w.cell? a = some v) : a = ⟨a.block, a.off, none⟩ ∧ a.block < w.heap.size := by
  unfold World.cell? at h
  split at h
  · rename_i c e f hb
    split at h
    · cases h
    · rename_i hs
      refine ⟨?_, (Array.getElem?_eq_some_iff.1 hb).1⟩
      obtain ⟨b, o, s⟩ := a
      cases s with
      | none => rfl
      | some _ => simp at hs
  · cases h

theorem add_none (g o j : Nat) : (⟨g, o, none⟩ : Addr).add j = ⟨g, o + j, none⟩ := by
  unfold Addr.add
  split <;> simp_all

/-- n rows of c cells each lie behind the address; each as Q says -/
def RowsAt (W : World) (ao : Option Addr) (n c : Nat) (Q : List Value → Prop) : Prop :=
  n = 0 ∨ ∃ g off, ao = some ⟨g, off, none⟩ ∧ g < W.heap.size ∧ ∀ i, i < n → ∃ cs : List Value, cs.length = c ∧ (∀ j, j < c → W.cell? ⟨g, off + (i * c + j), none⟩ = cs[j]?) ∧ Q cs

section
variable {H : Type} {enc : TypeId × Value → H} {P : Program} {W : World} {base : Nat} {spare : Nat → Bool} {held : Bool}

theorem open_sl {c fuel : Nat} {t e : TypeId} {v : Value} {x : DataW H × List MemPlace} (ht : P.underlying t = some (.slice e)) (hc : P.cellsOf e = c) (hc0 : 0 < c)
    (h : DataW.trod enc P W base spare held fuel t [v] = some x) :
    ∃ (ao : Option Addr) (n cap : Nat), v = .slice ao n cap ∧ n ≤ 9223372036854775807 ∧ (ao = none → n = 0 ∧ cap = 0) ∧ RowsAt W ao n c (fun cs => ∃ m y, DataW.trod enc P W base spare held m e cs = some y) := by
  rcases Go.Deep.open_slice ht h with ⟨h0, _⟩ | ⟨a, len, cap, m, n, D, Pl, h0, hb, hl, hm, hmm, _, hall⟩
  · obtain rfl : v = .slice none 0 0 := by simpa using h0
    exact ⟨none, 0, 0, rfl, by decide, fun _ => ⟨rfl, rfl⟩, .inl rfl⟩
  · obtain rfl : v = .slice (some a) len cap := by simpa using h0
    refine ⟨some a, len, cap, rfl, by unfold maxLen at hm; omega, (fun h => by cases h), ?_⟩
    by_cases hz : len = 0
    · exact .inl hz
    right
    have hlm : len ≤ m := by rw [hmm]; split <;> omega
    obtain ⟨cs0, hc1, _⟩ := hall 0 (by omega)
    rw [hc] at hc1
    obtain ⟨_, hl1, hcell⟩ := World.cells?_some hc1
    have hcell0 := hcell 0 hc0
    rw [List.getElem?_eq_getElem (by omega)] at hcell0
    simp only [Nat.zero_mul, Addr.add, if_true] at hcell0
    obtain ⟨ea, hlt⟩ := addr_none hcell0
    refine ⟨a.block, a.off, by rw [← ea], hlt, fun i hi => ?_⟩
    obtain ⟨cs, hc2, htr⟩ := hall i (by omega)
    rw [hc] at hc2
    obtain ⟨_, hl2, hcell2⟩ := World.cells?_some hc2
    refine ⟨cs, hl2, fun j hj => ?_, n, _, htr⟩
    have hcj := hcell2 j hj
    rw [ea, add_none, add_none, Nat.add_assoc] at hcj
    exact hcj

/-- an argument that is a slice -/
theorem slice_cell {r : Reach} {b0 : Nat} {t e : TypeId} {v : Value} {d : DataW H} {p : List MemPlace} (ht : P.underlying t = some (.slice e)) (hv : Value.okWide P W r b0 t v) (h : DataW.Trod enc P W base spare held t v d p) :
    ∃ fuel x, DataW.trod enc P W base spare held fuel t [v] = some x := by
  have hv1 : v.cells = #[v] := by
    unfold Value.okWide at hv
    simp only [ht] at hv
    unfold Cell.okWide Cell.ok at hv
    cases v <;> simp_all [Value.cells]
  obtain ⟨fuel, hx⟩ := h
  rw [hv1] at hx
  exact ⟨fuel, _, hx⟩
end

theorem lay_rows {α : Type} {f : α → List Value} {W : World} {ao : Option Addr} {n c : Nat} {Q : List Value → Prop} {R : α → Prop} (d : α) (hc0 : 0 < c) (hc : ∀ x, (f x).length = c) (h : RowsAt W ao n c Q) (hQ : ∀ cs, cs.length = c → Q cs → ∃ x : α, cs = f x ∧ R x) :
    ∃ l : List α, Lay f W ao n l ∧ ∀ k, k < n → R (nth d l k) := by
  rcases h with h | ⟨g, off, e, hg, h⟩
  · subst h
    exact ⟨[], Lay.nil, fun k hk => by omega⟩
  have h' : ∀ i, ∃ x : α, i < n → (∀ j, j < c → W.cell? ⟨g, off + (i * c + j), none⟩ = (f x)[j]?) ∧ R x := by
    intro i
    by_cases hi : i < n
    · obtain ⟨cs, hl, hcell, hq⟩ := h i hi
      obtain ⟨x, rfl, hr⟩ := hQ cs hl hq
      exact ⟨x, fun _ => ⟨hcell, hr⟩⟩
    · exact ⟨d, fun h => absurd h hi⟩
  refine ⟨(List.range n).map fun i => Classical.choose (h' i), ⟨by simp, .inr ⟨g, off, e, hg, fun j u hu => ?_⟩⟩, fun k hk => ?_⟩
  · have hlen : ((List.range n).map fun i => Classical.choose (h' i)).length = n := by simp
    have hj : j < n * c := by
      have := (List.getElem?_eq_some_iff.1 hu).1
      rwa [flat_length hc, hlen] at this
    have hi : j / c < n := (Nat.div_lt_iff_lt_mul hc0).2 hj
    have e1 : j / c * c + j % c = j := by rw [Nat.mul_comm]; exact Nat.div_add_mod j c
    rw [← e1, flat_at hc _ (j / c) (by rw [hlen]; exact hi) (j % c) (Nat.mod_lt _ hc0), List.getElem_map, List.getElem_range] at hu
    have := (Classical.choose_spec (h' (j / c)) hi).1 (j % c) (Nat.mod_lt _ hc0)
    rw [e1] at this
    rw [this]
    exact hu
  · rw [nth_range hk]
    exact (Classical.choose_spec (h' k) hk).2

section
variable {H : Type} {enc : TypeId × Value → H} {P : Program} {W : World} {base : Nat} {spare : Nat → Bool} {held : Bool} {ao : Option Addr} {n : Nat} {e : TypeId}

theorem lay_ints (hf : flatB P 4 e = true) (h : RowsAt W ao n 1 (fun cs => ∃ m y, DataW.trod enc P W base spare held m e cs = some y)) : ∃ l : List Int, Lay fI W ao n l := by
  obtain ⟨l, hl, _⟩ := lay_rows (f := fI) (R := fun _ => True) 0 (by decide) fI_c h (by
    rintro cs hl ⟨m, y, hy⟩
    match cs, hl, hy with
    | [a], _, hy =>
      obtain ⟨z, rfl, _⟩ := flat_ints 4 e m _ _ hf hy a (by simp)
      exact ⟨z, rfl, trivial⟩)
  exact ⟨l, hl⟩
theorem lay_vecs (hf : flatB P 4 e = true) (h : RowsAt W ao n 3 (fun cs => ∃ m y, DataW.trod enc P W base spare held m e cs = some y)) : ∃ l : List V3, Lay fV W ao n l := by
  obtain ⟨l, hl, _⟩ := lay_rows (f := fV) (R := fun _ => True) zeroV (by decide) fV_c h (by
    rintro cs hl ⟨m, y, hy⟩
    match cs, hl, hy with
    | [a, b, c], _, hy =>
      obtain ⟨z, rfl, _⟩ := flat_ints 4 e m _ _ hf hy a (by simp)
      obtain ⟨z2, rfl, _⟩ := flat_ints 4 e m _ _ hf hy b (by simp)
      obtain ⟨z3, rfl, _⟩ := flat_ints 4 e m _ _ hf hy c (by simp)
      exact ⟨⟨z, z2, z3⟩, rfl, trivial⟩)
  exact ⟨l, hl⟩
theorem lay_twos (hf : flatB P 4 e = true) (h : RowsAt W ao n 2 (fun cs => ∃ m y, DataW.trod enc P W base spare held m e cs = some y)) : ∃ l : List (Int × Int), Lay f2 W ao n l := by
  obtain ⟨l, hl, _⟩ := lay_rows (f := f2) (R := fun _ => True) (0, 0) (by decide) f2_c h (by
    rintro cs hl ⟨m, y, hy⟩
    match cs, hl, hy with
    | [a, b], _, hy =>
      obtain ⟨z, rfl, _⟩ := flat_ints 4 e m _ _ hf hy a (by simp)
      obtain ⟨z2, rfl, _⟩ := flat_ints 4 e m _ _ hf hy b (by simp)
      exact ⟨(z, z2), rfl, trivial⟩)
  exact ⟨l, hl⟩
end

end Go.Proofs.Ytimmbpcoagjcbaa
