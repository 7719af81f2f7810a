/- Arguments that are primitives, or meshes: opened. -/
import Derived.Test.YtkiahgkfgcjkgaaOpen
import Derived.Test.YtkiahgkfgcjkgaaMeshMath2
namespace Go.Proofs.Ytkiahgkfgcjkgaa
open Go.RowKit Go.ChangeShapes Go.WideShapes Go.ChangeAt Go.Deep

section
variable {H : Type} {enc : TypeId × Value → H} {P : Program} {W : World} {base : Nat} {spare : Nat → Bool} {held : Bool} {f0 f1 : Field} {t e tp ev eu : TypeId}

theorem prim_cells {fuel : Nat} {x : DataW H × List MemPlace} {c0 c1 : Value} (hs : P.underlying t = some (.struct #[f0, f1])) (hone : oneCellFields P #[f0, f1] = true) (hk : P.underlying f0.type = some (.int .u8)) (hi : P.underlying f1.type = some (.slice e))
    (hc : P.cellsOf e = 1) (hf : flatB P 4 e = true) (h : DataW.trod enc P W base spare held fuel t [c0, c1] = some x) : ∃ hh p, [c0, c1] = fP hh ∧ PrimAt W hh p := by
  obtain ⟨y0, y1, n, hx, _, h0, h1⟩ := trod_struct2 hs h
  obtain ⟨o0, k0⟩ := hone_of hone 0 f0 rfl
  obtain ⟨o1, k1⟩ := hone_of hone 1 f1 rfl
  have h0' : DataW.trod enc P W base spare held n f0.type [c0] = some y0 := by simpa [o0, k0] using h0
  have h1' : DataW.trod enc P W base spare held n f1.type [c1] = some y1 := by simpa [o1, k1] using h1
  obtain ⟨k, ek, _, wk⟩ := DataW.trod_int hk h0'
  obtain rfl : c0 = .int .u8 k := by simpa using ek
  obtain ⟨ao, m, cap, rfl, hn, hz, ho⟩ := open_sl hi hc (by decide) h1'
  obtain ⟨l, hl⟩ := lay_ints hf ho
  exact ⟨⟨k, ao, m, cap⟩, ⟨k, l⟩, rfl, rfl, (bounds_u8 wk).1, (bounds_u8 wk).2, hn, hz, hl⟩

theorem open_prim {r : Reach} {b0 : Nat} {v : Value} {d : DataW H} {p : List MemPlace} (hs : P.underlying t = some (.struct #[f0, f1])) (hone : oneCellFields P #[f0, f1] = true) (hC : P.cellsOf t = 2) (hk : P.underlying f0.type = some (.int .u8)) (hi : P.underlying f1.type = some (.slice e))
    (hc : P.cellsOf e = 1) (hf : flatB P 4 e = true) (hv : Value.okWide P W r b0 t v) (h : DataW.Trod enc P W base spare held t v d p) :
    ∃ (kind : Int) (ao : Option Addr) (n cap : Nat) (ix : List Int), v = .agg #[.int .u8 kind, .slice ao n cap] ∧ 0 ≤ kind ∧ kind ≤ 255 ∧ n ≤ 9223372036854775807 ∧ Lay fI W ao n ix := by
  obtain ⟨cs, rfl, hsz⟩ := okWide_struct hs hv
  obtain ⟨c0, c1, rfl⟩ := Joins.array2 (hsz.trans hC)
  obtain ⟨fuel, hx⟩ := h
  obtain ⟨hh, p, e1, hp⟩ := prim_cells hs hone hk hi hc hf (by simpa [Value.cells] using hx)
  simp only [fP, List.cons.injEq, and_true] at e1
  obtain ⟨rfl, rfl⟩ := e1
  obtain ⟨h1, h2, h3, h4, h5, h6⟩ := hp
  exact ⟨_, _, _, _, p.ix, rfl, h1 ▸ h2, h1 ▸ h3, h4, h6⟩

theorem lay_prims {ao : Option Addr} {n : Nat} (hs : P.underlying t = some (.struct #[f0, f1])) (hone : oneCellFields P #[f0, f1] = true) (hk : P.underlying f0.type = some (.int .u8)) (hi : P.underlying f1.type = some (.slice e))
    (hc : P.cellsOf e = 1) (hf : flatB P 4 e = true) (h : RowsAt W ao n 2 (fun cs => ∃ m y, DataW.trod enc P W base spare held m t cs = some y)) : ∃ hs ps, Lay fP W ao n hs ∧ PrimsAt W hs ps := by
  obtain ⟨l, hl, hR⟩ := lay_rows (f := fP) (R := fun hh => ∃ p, PrimAt W hh p) dPH (by decide) fP_c h (by
    rintro cs hl ⟨m, y, hy⟩
    match cs, hl, hy with
    | [a, b], _, hy =>
      obtain ⟨hh, p, e1, hp⟩ := prim_cells hs hone hk hi hc hf hy
      exact ⟨hh, e1, p, hp⟩)
  have hR' : ∀ k, ∃ p, k < n → PrimAt W (nth dPH l k) p := by
    intro k
    by_cases hk : k < n
    · obtain ⟨p, hp⟩ := hR k hk
      exact ⟨p, fun _ => hp⟩
    · exact ⟨dPr, fun h => absurd h hk⟩
  refine ⟨l, (List.range n).map fun k => Classical.choose (hR' k), hl, ⟨by simp [hl.len], fun k hk => ?_⟩⟩
  rw [hl.len] at hk
  rw [nth_range hk]
  exact Classical.choose_spec (hR' k) hk

theorem open_mesh {r : Reach} {b0 : Nat} {v : Value} {d : DataW H} {p : List MemPlace} {g0 g1 g2 : Field} {tm : TypeId} (hm : P.underlying tm = some (.struct #[g0, g1, g2])) (hone3 : oneCellFields P #[g0, g1, g2] = true) (hC3 : P.cellsOf tm = 3)
    (hg0 : P.underlying g0.type = some (.slice ev)) (hg1 : P.underlying g1.type = some (.slice eu)) (hg2 : P.underlying g2.type = some (.slice t)) (hev : P.cellsOf ev = 3) (heu : P.cellsOf eu = 2) (hC : P.cellsOf t = 2) (fv : flatB P 4 ev = true) (fu : flatB P 4 eu = true)
    (hs : P.underlying t = some (.struct #[f0, f1])) (hone : oneCellFields P #[f0, f1] = true) (hk : P.underlying f0.type = some (.int .u8)) (hi : P.underlying f1.type = some (.slice e))
    (hc : P.cellsOf e = 1) (hf : flatB P 4 e = true) (hv : Value.okWide P W r b0 tm v) (h : DataW.Trod enc P W base spare held tm v d p) :
    ∃ (h : MH) (hs : List PH) (m : Ms), v = fM h ∧ MeshAt W h hs m := by
  obtain ⟨v0, v1, v2, y0, y1, y2, n, rfl, _, _, t0, t1, t2⟩ := Joins.open_agg3 hm hone3 hC3 hv h
  obtain ⟨a0, n0, c0, rfl, hn0, z0, o0⟩ := open_sl hg0 hev (by decide) t0
  obtain ⟨a1, n1, c1, rfl, hn1, z1, o1⟩ := open_sl hg1 heu (by decide) t1
  obtain ⟨a2, n2, c2, rfl, hn2, z2, o2⟩ := open_sl hg2 hC (by decide) t2
  obtain ⟨lv, hlv⟩ := lay_vecs fv o0
  obtain ⟨lu, hlu⟩ := lay_twos fu o1
  obtain ⟨hs', ps, hlp, hpp⟩ := lay_prims hs hone hk hi hc hf o2
  exact ⟨⟨a0, n0, c0, a1, n1, c1, a2, n2, c2⟩, hs', ⟨lv, lu, ps⟩, rfl, hn0, hn1, hn2, z0, z1, z2, hlv, hlu, hlp, hpp⟩
end

end Go.Proofs.Ytkiahgkfgcjkgaa
