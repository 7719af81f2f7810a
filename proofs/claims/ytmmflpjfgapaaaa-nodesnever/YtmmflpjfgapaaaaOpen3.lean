/- Arguments that are arenas: opened. -/
import Derived.Test.YtmmflpjfgapaaaaOpen
import Derived.Test.YtmmflpjfgapaaaaArena1
namespace Go.Proofs.Ytmmflpjfgapaaaa
open Go.RowKit Go.ChangeShapes Go.WideShapes Go.ChangeAt Go.Deep

section
variable {H : Type} {enc : TypeId × Value → H} {P : Program} {W : World} {base : Nat} {spare : Nat → Bool} {held : Bool} {f0 f1 g0 : Field} {t e ta : TypeId}

theorem slot_cells {fuel : Nat} {x : DataW H × List MemPlace} {c0 c1 : Value} (hs : P.underlying t = some (.struct #[f0, f1])) (hone : oneCellFields P #[f0, f1] = true) (hk : P.underlying f0.type = some (.int .i64)) (hi : P.underlying f1.type = some .bool)
    (h : DataW.trod enc P W base spare held fuel t [c0, c1] = some x) : ∃ s : Sl, [c0, c1] = fS s := by
  obtain ⟨y0, y1, n, hx, _, h0, h1⟩ := trod_struct2 hs h
  obtain ⟨o0, k0⟩ := hone_of hone 0 f0 rfl
  obtain ⟨o1, k1⟩ := hone_of hone 1 f1 rfl
  have h0' : DataW.trod enc P W base spare held n f0.type [c0] = some y0 := by simpa [o0, k0] using h0
  have h1' : DataW.trod enc P W base spare held n f1.type [c1] = some y1 := by simpa [o1, k1] using h1
  obtain ⟨k, ek, _, wk⟩ := DataW.trod_int hk h0'
  obtain rfl : c0 = .int .i64 k := by simpa using ek
  obtain ⟨b, eb, _⟩ := DataW.trod_bool hi h1'
  obtain rfl : c1 = .bool b := by simpa using eb
  exact ⟨⟨k, b⟩, rfl⟩

theorem lay_slots {ao : Option Addr} {n : Nat} (hs : P.underlying t = some (.struct #[f0, f1])) (hone : oneCellFields P #[f0, f1] = true) (hk : P.underlying f0.type = some (.int .i64)) (hi : P.underlying f1.type = some .bool)
    (h : RowsAt W ao n 2 (fun cs => ∃ m y, DataW.trod enc P W base spare held m t cs = some y)) : ∃ l : List Sl, Lay fS W ao n l := by
  obtain ⟨l, hl, _⟩ := lay_rows (f := fS) (R := fun _ => True) dSl (by decide) fS_c h (by
    rintro cs hl ⟨m, y, hy⟩
    match cs, hl, hy with
    | [a, b], _, hy =>
      obtain ⟨s, e1⟩ := slot_cells hs hone hk hi hy
      exact ⟨s, e1, trivial⟩)
  exact ⟨l, hl⟩

theorem open_arena {r : Reach} {b0 : Nat} {v : Value} {d : DataW H} {p : List MemPlace} (hA : P.underlying ta = some (.struct #[g0])) (honeA : oneCellFields P #[g0] = true) (hCA : P.cellsOf ta = 1) (hg : P.underlying g0.type = some (.slice t)) (hC : P.cellsOf t = 2)
    (hs : P.underlying t = some (.struct #[f0, f1])) (hone : oneCellFields P #[f0, f1] = true) (hk : P.underlying f0.type = some (.int .i64)) (hi : P.underlying f1.type = some .bool)
    (hv : Value.okWide P W r b0 ta v) (h : DataW.Trod enc P W base spare held ta v d p) :
    ∃ (ao : Option Addr) (n cap : Nat) (l : List Sl), v = .agg #[.slice ao n cap] ∧ n ≤ 9223372036854775807 ∧ (ao = none → n = 0 ∧ cap = 0) ∧ Lay fS W ao n l := by
  obtain ⟨cs, rfl, hsz⟩ := okWide_struct hA hv
  obtain ⟨c0, rfl⟩ : ∃ c0, cs = #[c0] := by
    obtain ⟨l⟩ := cs
    match l, hsz.trans hCA with
    | [c0], _ => exact ⟨c0, rfl⟩
  obtain ⟨fuel, hx⟩ := h
  obtain ⟨xs, n, _, _, hl, hlen, hf⟩ := DataW.trod_struct hA hx
  obtain ⟨o0, k0⟩ := hone_of honeA 0 g0 rfl
  have h0 := hf 0 g0 rfl
  rw [List.getElem?_eq_getElem (by simp at hlen; omega)] at h0
  obtain ⟨y, h0'⟩ : ∃ y, DataW.trod enc P W base spare held n g0.type [c0] = some y := ⟨_, by simpa [Value.cells, o0, k0] using h0⟩
  obtain ⟨ao, m, cap, rfl, hn, hz, hor⟩ := open_sl hg hC (by decide) h0'
  obtain ⟨l, hl⟩ := lay_slots hs hone hk hi hor
  exact ⟨ao, m, cap, l, rfl, hn, hz, hl⟩

theorem open_flat2 {k : Nat} {r : Reach} {b0 : Nat} {v : Value} {d : DataW H} {p : List MemPlace} (hf : flatB P k t = true) (ha : aggB P t = true) (hc : P.cellsOf t = 2)
    (hv : Value.okWide P W r b0 t v) (h : DataW.Trod enc P W base spare held t v d p) :
    ∃ a0 a1 : Int, v = .agg #[.int .i64 a0, .int .i64 a1] ∧ (-9223372036854775808 ≤ a0 ∧ a0 ≤ 9223372036854775807) ∧ (-9223372036854775808 ≤ a1 ∧ a1 ≤ 9223372036854775807) := by
  obtain ⟨ns, hv, hl, hb⟩ := open_flat hf ha hv h
  rw [hc] at hl
  match ns, hl, hb with
  | [a0, a1], _, hb => exact ⟨a0, a1, hv, hb _ (by simp), hb _ (by simp)⟩
end
end Go.Proofs.Ytmmflpjfgapaaaa
