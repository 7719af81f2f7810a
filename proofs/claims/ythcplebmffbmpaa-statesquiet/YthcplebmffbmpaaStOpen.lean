/- Arguments that are styles, looks on the way down, lists of styles: opened. -/
import Derived.Test.YthcplebmffbmpaaMix
import Derived.Test.YthcplebmffbmpaaStMath
namespace Go.Proofs.Ythcplebmffbmpaa
open Go.RowKit Go.ChangeShapes Go.WideShapes Go.ChangeAt
set_option linter.unusedSimpArgs false
set_option linter.unusedVariables false
attribute [local go_sem] plus_size plus_drew dn_set dn_alloc dn_plus plus_dn cell_plus frozen_plus set_plus cell_alloc frozen_alloc set_alloc

def fSy (s : Sy) : List Value := [.int .u8 s.s0, .int .u8 s.s1, .int .u8 s.s2, .int .u8 s.s3, .int .u8 s.s4, .int .u8 s.l.r, .int .u8 s.l.g, .int .u8 s.l.b, .int .u8 s.l.a, .int .i64 s.l.tx, .int .u8 s.l.cu, .int .i64 s.l.bi, .bool s.l.bl, .int .i64 s.l.bn]
theorem fSy_c : ∀ x, (fSy x).length = 14 := fun _ => rfl
theorem fSy_1 : ∀ x, ∀ u ∈ fSy x, u.oneCell' = true := by
  intro x u hu
  simp only [fSy, List.mem_cons, List.not_mem_nil, or_false] at hu
  rcases hu with rfl | rfl | rfl | rfl | rfl | rfl | rfl | rfl | rfl | rfl | rfl | rfl | rfl | rfl <;> rfl
theorem kind_of {P : Program} {t : TypeId} {n j k : Nat} {l : List Nat} (h : (List.range n).map (kindAt P 4 t) = l) (hj : j < n) (hk : l[j]? = some k) : kindAt P 4 t j = k := by
  subst h
  simp [hj] at hk
  exact hk
section
variable {H : Type} {enc : TypeId × Value → H} {P : Program} {W : World} {base : Nat} {spare : Nat → Bool} {held : Bool} {t : TypeId}
theorem sty_cells {fuel : Nat} {x : DataW H × List MemPlace} {cs : List Value} (hk : (List.range 14).map (kindAt P 4 t) = [1, 1, 1, 1, 1, 1, 1, 1, 1, 0, 1, 0, 2, 0]) (hl : cs.length = 14)
    (h : DataW.trod enc P W base spare held fuel t cs = some x) : ∃ s : Sy, cs = fSy s ∧ SyB s := by
  have hc := mix_cell 4 t fuel cs x h
  match cs, hl, hc with
  | [c0, c1, c2, c3, c4, c5, c6, c7, c8, c9, c10, c11, c12, c13], _, hc =>
    have q0 := hc 0 c0 rfl
    rw [kind_of hk (j := 0) (k := 1) (by decide) rfl] at q0
    obtain ⟨n0, rfl, b0⟩ := q0
    have q1 := hc 1 c1 rfl
    rw [kind_of hk (j := 1) (k := 1) (by decide) rfl] at q1
    obtain ⟨n1, rfl, b1⟩ := q1
    have q2 := hc 2 c2 rfl
    rw [kind_of hk (j := 2) (k := 1) (by decide) rfl] at q2
    obtain ⟨n2, rfl, b2⟩ := q2
    have q3 := hc 3 c3 rfl
    rw [kind_of hk (j := 3) (k := 1) (by decide) rfl] at q3
    obtain ⟨n3, rfl, b3⟩ := q3
    have q4 := hc 4 c4 rfl
    rw [kind_of hk (j := 4) (k := 1) (by decide) rfl] at q4
    obtain ⟨n4, rfl, b4⟩ := q4
    have q5 := hc 5 c5 rfl
    rw [kind_of hk (j := 5) (k := 1) (by decide) rfl] at q5
    obtain ⟨n5, rfl, b5⟩ := q5
    have q6 := hc 6 c6 rfl
    rw [kind_of hk (j := 6) (k := 1) (by decide) rfl] at q6
    obtain ⟨n6, rfl, b6⟩ := q6
    have q7 := hc 7 c7 rfl
    rw [kind_of hk (j := 7) (k := 1) (by decide) rfl] at q7
    obtain ⟨n7, rfl, b7⟩ := q7
    have q8 := hc 8 c8 rfl
    rw [kind_of hk (j := 8) (k := 1) (by decide) rfl] at q8
    obtain ⟨n8, rfl, b8⟩ := q8
    have q9 := hc 9 c9 rfl
    rw [kind_of hk (j := 9) (k := 0) (by decide) rfl] at q9
    obtain ⟨n9, rfl⟩ := q9
    have q10 := hc 10 c10 rfl
    rw [kind_of hk (j := 10) (k := 1) (by decide) rfl] at q10
    obtain ⟨n10, rfl, b10⟩ := q10
    have q11 := hc 11 c11 rfl
    rw [kind_of hk (j := 11) (k := 0) (by decide) rfl] at q11
    obtain ⟨n11, rfl⟩ := q11
    have q12 := hc 12 c12 rfl
    rw [kind_of hk (j := 12) (k := 2) (by decide) rfl] at q12
    obtain ⟨n12, rfl⟩ := q12
    have q13 := hc 13 c13 rfl
    rw [kind_of hk (j := 13) (k := 0) (by decide) rfl] at q13
    obtain ⟨n13, rfl⟩ := q13
    exact ⟨⟨n0, n1, n2, n3, n4, ⟨n5, n6, n7, n8, n9, n10, n11, n12, n13⟩⟩, rfl, ⟨b0, b1, b2, b3, b4, ⟨b5, b6, b7, b8, b10⟩⟩⟩
theorem inh_cells {fuel : Nat} {x : DataW H × List MemPlace} {cs : List Value} (hk : (List.range 14).map (kindAt P 4 t) = [1, 1, 1, 1, 0, 1, 0, 2, 0, 2, 2, 2, 2, 2]) (hl : cs.length = 14)
    (h : DataW.trod enc P W base spare held fuel t cs = some x) : ∃ i : Ih, cs = [.int .u8 i.l.r, .int .u8 i.l.g, .int .u8 i.l.b, .int .u8 i.l.a, .int .i64 i.l.tx, .int .u8 i.l.cu, .int .i64 i.l.bi, .bool i.l.bl, .int .i64 i.l.bn, .bool i.k0, .bool i.k1, .bool i.k2, .bool i.k3, .bool i.k4] ∧ LkB i.l := by
  have hc := mix_cell 4 t fuel cs x h
  match cs, hl, hc with
  | [c0, c1, c2, c3, c4, c5, c6, c7, c8, c9, c10, c11, c12, c13], _, hc =>
    have q0 := hc 0 c0 rfl
    rw [kind_of hk (j := 0) (k := 1) (by decide) rfl] at q0
    obtain ⟨n0, rfl, b0⟩ := q0
    have q1 := hc 1 c1 rfl
    rw [kind_of hk (j := 1) (k := 1) (by decide) rfl] at q1
    obtain ⟨n1, rfl, b1⟩ := q1
    have q2 := hc 2 c2 rfl
    rw [kind_of hk (j := 2) (k := 1) (by decide) rfl] at q2
    obtain ⟨n2, rfl, b2⟩ := q2
    have q3 := hc 3 c3 rfl
    rw [kind_of hk (j := 3) (k := 1) (by decide) rfl] at q3
    obtain ⟨n3, rfl, b3⟩ := q3
    have q4 := hc 4 c4 rfl
    rw [kind_of hk (j := 4) (k := 0) (by decide) rfl] at q4
    obtain ⟨n4, rfl⟩ := q4
    have q5 := hc 5 c5 rfl
    rw [kind_of hk (j := 5) (k := 1) (by decide) rfl] at q5
    obtain ⟨n5, rfl, b5⟩ := q5
    have q6 := hc 6 c6 rfl
    rw [kind_of hk (j := 6) (k := 0) (by decide) rfl] at q6
    obtain ⟨n6, rfl⟩ := q6
    have q7 := hc 7 c7 rfl
    rw [kind_of hk (j := 7) (k := 2) (by decide) rfl] at q7
    obtain ⟨n7, rfl⟩ := q7
    have q8 := hc 8 c8 rfl
    rw [kind_of hk (j := 8) (k := 0) (by decide) rfl] at q8
    obtain ⟨n8, rfl⟩ := q8
    have q9 := hc 9 c9 rfl
    rw [kind_of hk (j := 9) (k := 2) (by decide) rfl] at q9
    obtain ⟨n9, rfl⟩ := q9
    have q10 := hc 10 c10 rfl
    rw [kind_of hk (j := 10) (k := 2) (by decide) rfl] at q10
    obtain ⟨n10, rfl⟩ := q10
    have q11 := hc 11 c11 rfl
    rw [kind_of hk (j := 11) (k := 2) (by decide) rfl] at q11
    obtain ⟨n11, rfl⟩ := q11
    have q12 := hc 12 c12 rfl
    rw [kind_of hk (j := 12) (k := 2) (by decide) rfl] at q12
    obtain ⟨n12, rfl⟩ := q12
    have q13 := hc 13 c13 rfl
    rw [kind_of hk (j := 13) (k := 2) (by decide) rfl] at q13
    obtain ⟨n13, rfl⟩ := q13
    exact ⟨⟨⟨n0, n1, n2, n3, n4, n5, n6, n7, n8⟩, n9, n10, n11, n12, n13⟩, rfl, ⟨b0, b1, b2, b3, b5⟩⟩
theorem lay_styles {ao : Option Addr} {n : Nat} (hk : (List.range 14).map (kindAt P 4 t) = [1, 1, 1, 1, 1, 1, 1, 1, 1, 0, 1, 0, 2, 0])
    (h : RowsAt W ao n 14 (fun cs => ∃ m y, DataW.trod enc P W base spare held m t cs = some y)) : ∃ l : List Sy, Lay fSy W ao n l ∧ ∀ k, k < n → SyB (nth sy0 l k) :=
  lay_rows (f := fSy) (R := SyB) sy0 (by decide) fSy_c h (by
    rintro cs hl ⟨m, y, hy⟩
    exact sty_cells hk hl hy)
theorem open_style {W : World} {r : Reach} {b0 : Nat} {v : Value} {d : DataW H} {p : List MemPlace} (ha : aggB P t = true) (hc : P.cellsOf t = 14) (hk : (List.range 14).map (kindAt P 4 t) = [1, 1, 1, 1, 1, 1, 1, 1, 1, 0, 1, 0, 2, 0])
    (hv : Value.okWide P W r b0 t v) (h : DataW.Trod enc P W base spare held t v d p) : ∃ s : Sy, v = .agg #[.int .u8 s.s0, .int .u8 s.s1, .int .u8 s.s2, .int .u8 s.s3, .int .u8 s.s4, .int .u8 s.l.r, .int .u8 s.l.g, .int .u8 s.l.b, .int .u8 s.l.a, .int .i64 s.l.tx, .int .u8 s.l.cu, .int .i64 s.l.bi, .bool s.l.bl, .int .i64 s.l.bn] ∧ SyB s := by
  obtain ⟨cs, fuel, x, rfl, hl, hx⟩ := open_agg ha hv h
  obtain ⟨s, rfl, hb⟩ := sty_cells hk (hl.trans hc) hx
  exact ⟨s, rfl, hb⟩
theorem open_inherit {W : World} {r : Reach} {b0 : Nat} {v : Value} {d : DataW H} {p : List MemPlace} (ha : aggB P t = true) (hc : P.cellsOf t = 14) (hk : (List.range 14).map (kindAt P 4 t) = [1, 1, 1, 1, 0, 1, 0, 2, 0, 2, 2, 2, 2, 2])
    (hv : Value.okWide P W r b0 t v) (h : DataW.Trod enc P W base spare held t v d p) : ∃ i : Ih, v = .agg #[.int .u8 i.l.r, .int .u8 i.l.g, .int .u8 i.l.b, .int .u8 i.l.a, .int .i64 i.l.tx, .int .u8 i.l.cu, .int .i64 i.l.bi, .bool i.l.bl, .int .i64 i.l.bn, .bool i.k0, .bool i.k1, .bool i.k2, .bool i.k3, .bool i.k4] ∧ LkB i.l := by
  obtain ⟨cs, fuel, x, rfl, hl, hx⟩ := open_agg ha hv h
  obtain ⟨s, rfl, hb⟩ := inh_cells hk (hl.trans hc) hx
  exact ⟨s, rfl, hb⟩
end
theorem cellSy {w : World} {g o n k : Nat} {l : List Sy} (hn : l.length = n) (h : ∀ j u, (l.flatMap fSy)[j]? = some u → w.cell? ⟨g, o + j, none⟩ = some u) (hk : k < n) : w.cell? ⟨g, o + k * 14, none⟩ = some (.int .u8 ((nth sy0 l k)).s0) ∧ w.cell? ⟨g, o + k * 14 + 1, none⟩ = some (.int .u8 ((nth sy0 l k)).s1) ∧ w.cell? ⟨g, o + k * 14 + 2, none⟩ = some (.int .u8 ((nth sy0 l k)).s2) ∧ w.cell? ⟨g, o + k * 14 + 3, none⟩ = some (.int .u8 ((nth sy0 l k)).s3) ∧ w.cell? ⟨g, o + k * 14 + 4, none⟩ = some (.int .u8 ((nth sy0 l k)).s4) ∧ w.cell? ⟨g, o + k * 14 + 5, none⟩ = some (.int .u8 ((nth sy0 l k).l).r) ∧ w.cell? ⟨g, o + k * 14 + 6, none⟩ = some (.int .u8 ((nth sy0 l k).l).g) ∧ w.cell? ⟨g, o + k * 14 + 7, none⟩ = some (.int .u8 ((nth sy0 l k).l).b) ∧ w.cell? ⟨g, o + k * 14 + 8, none⟩ = some (.int .u8 ((nth sy0 l k).l).a) ∧ w.cell? ⟨g, o + k * 14 + 9, none⟩ = some (.int .i64 ((nth sy0 l k).l).tx) ∧ w.cell? ⟨g, o + k * 14 + 10, none⟩ = some (.int .u8 ((nth sy0 l k).l).cu) ∧ w.cell? ⟨g, o + k * 14 + 11, none⟩ = some (.int .i64 ((nth sy0 l k).l).bi) ∧ w.cell? ⟨g, o + k * 14 + 12, none⟩ = some (.bool ((nth sy0 l k).l).bl) ∧ w.cell? ⟨g, o + k * 14 + 13, none⟩ = some (.int .i64 ((nth sy0 l k).l).bn) := by
  have h0 := cell_nth (d := sy0) hn fSy_c h k 0 _ hk (by decide) rfl
  have h1 := cell_nth (d := sy0) hn fSy_c h k 1 _ hk (by decide) rfl
  have h2 := cell_nth (d := sy0) hn fSy_c h k 2 _ hk (by decide) rfl
  have h3 := cell_nth (d := sy0) hn fSy_c h k 3 _ hk (by decide) rfl
  have h4 := cell_nth (d := sy0) hn fSy_c h k 4 _ hk (by decide) rfl
  have h5 := cell_nth (d := sy0) hn fSy_c h k 5 _ hk (by decide) rfl
  have h6 := cell_nth (d := sy0) hn fSy_c h k 6 _ hk (by decide) rfl
  have h7 := cell_nth (d := sy0) hn fSy_c h k 7 _ hk (by decide) rfl
  have h8 := cell_nth (d := sy0) hn fSy_c h k 8 _ hk (by decide) rfl
  have h9 := cell_nth (d := sy0) hn fSy_c h k 9 _ hk (by decide) rfl
  have h10 := cell_nth (d := sy0) hn fSy_c h k 10 _ hk (by decide) rfl
  have h11 := cell_nth (d := sy0) hn fSy_c h k 11 _ hk (by decide) rfl
  have h12 := cell_nth (d := sy0) hn fSy_c h k 12 _ hk (by decide) rfl
  have h13 := cell_nth (d := sy0) hn fSy_c h k 13 _ hk (by decide) rfl
  rw [Nat.add_zero] at h0
  rw [← Nat.add_assoc] at h1 h2 h3 h4 h5 h6 h7 h8 h9 h10 h11 h12 h13
  exact ⟨h0, h1, h2, h3, h4, h5, h6, h7, h8, h9, h10, h11, h12, h13⟩

end Go.Proofs.Ythcplebmffbmpaa
