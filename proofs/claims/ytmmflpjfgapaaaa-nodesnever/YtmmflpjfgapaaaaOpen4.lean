/- Arguments that are graphs: opened; how long their rows are at most. -/
import Derived.Test.YtmmflpjfgapaaaaOpen3
import Derived.Test.YtmmflpjfgapaaaaNodes1
import Derived.SizedLaws
namespace Go.Proofs.Ytmmflpjfgapaaaa
open Go.RowKit Go.ChangeShapes Go.WideShapes Go.ChangeAt Go.Deep

section
variable {H : Type} {enc : TypeId × Value → H} {P : Program} {W : World} {base : Nat} {spare : Nat → Bool} {held : Bool} {f0 f1 g0 s0 s1 : Field} {t e ta tg ts te : TypeId}

/-- all slices of a datum lie within the form's own reach -/
def Sm (P : Program) (t : TypeId) (d : DataW H) : Prop := ∀ x, x ∈ d.weights P t → x ≤ reachBytes
theorem sm_of {ts : List TypeId} {ds : List (DataW H)} (h : (DataW.weightsEach P ts ds).all (fun x => decide (x ≤ reachBytes)) = true) {j : Nat} {d : DataW H} (ht : ts[j]? = some t) (hd : ds[j]? = some d) : Sm P t d := by
  intro x hx
  have := List.all_eq_true.1 h x (DataW.weights_mem_each ht hd x hx)
  simpa using this
theorem all_mem {d : DataW H} {x : Nat} : ∀ {l : List (DataW H)}, d ∈ l → x ∈ d.weights P e → x ∈ DataW.weightsAll P e l
  | [], h, _ => by simp at h
  | a :: l, h, hx => by
    rw [DataW.weightsAll, List.mem_append]
    rcases List.mem_cons.1 h with rfl | h
    · exact .inl hx
    · exact .inr (all_mem h hx)
theorem sm_field {fs : Array Field} {parts : List (DataW H)} (hu : P.underlying t = some (.struct fs)) (h : Sm P t (.agg parts)) {j : Nat} {f : Field} {d : DataW H} (hf : fs[j]? = some f) (hd : parts[j]? = some d) : Sm P f.type d := by
  intro x hx
  refine h x ?_
  simp only [DataW.weights, hu]
  exact DataW.weights_mem_each (j := j) (t := f.type) (by simp [hf]) hd x hx

theorem open_slS {c fuel : Nat} {v : Value} {x : DataW H × List MemPlace} (ht : P.underlying t = some (.slice e)) (hc : P.cellsOf e = c) (hc0 : 0 < c) (h : DataW.trod enc P W base spare held fuel t [v] = some x) (hS : Sm P t x.1) :
    ∃ (ao : Option Addr) (n cap : Nat), v = .slice ao n cap ∧ n ≤ 9223372036854775807 ∧ n ≤ cap ∧ n * P.bytesOf e ≤ reachBytes ∧ (ao = none → n = 0 ∧ cap = 0) ∧ RowsAt W ao n c (fun cs => ∃ m y, DataW.trod enc P W base spare held m e cs = some y ∧ Sm P e y.1) := by
  rcases Go.Deep.open_slice ht h with ⟨h0, _⟩ | ⟨a, len, cap, m, n, D, Pl, h0, hb, hl, hm, hmm, hx, hall⟩
  · obtain rfl : v = .slice none 0 0 := by simpa using h0
    exact ⟨none, 0, 0, rfl, by decide, Nat.le_refl _, by simp, fun _ => ⟨rfl, rfl⟩, .inl rfl⟩
  · obtain rfl : v = .slice (some a) len cap := by simpa using h0
    have hlm : len ≤ m := by rw [hmm]; split <;> omega
    rw [hx] at hS
    have hw : len * P.bytesOf e ≤ reachBytes := by
      have h1 := hS ((len + (m - len)) * P.bytesOf e) (by simp [DataW.weights, ht])
      exact Nat.le_trans (Nat.mul_le_mul_right _ (Nat.le_add_right _ _)) h1
    refine ⟨some a, len, cap, rfl, by unfold maxLen at hm; omega, hl, hw, (fun h => by cases h), ?_⟩
    by_cases hz : len = 0
    · exact .inl hz
    right
    obtain ⟨cs0, hc1, _⟩ := hall 0 (by omega)
    rw [hc] at hc1
    obtain ⟨_, hl1, hcell⟩ := World.cells?_some hc1
    have hcell0 := hcell 0 hc0
    rw [List.getElem?_eq_getElem (by omega)] at hcell0
    simp only [Nat.zero_mul, Addr.add, if_true] at hcell0
    obtain ⟨ea, hlt⟩ := addr_none hcell0
    refine ⟨a.block, a.off, by rw [← ea], hlt, fun i hi => ?_⟩
    obtain ⟨cs, hc2, htr⟩ := hall i (by omega)
    rw [hc] at hc2
    obtain ⟨_, hl2, hcell2⟩ := World.cells?_some hc2
    refine ⟨cs, hl2, fun j hj => ?_, n, _, htr, fun y hy => hS y ?_⟩
    · have hcj := hcell2 j hj
      rw [ea, add_none, add_none, Nat.add_assoc] at hcj
      exact hcj
    · simp only [DataW.weights, ht, List.mem_cons, List.mem_append]
      exact .inr (.inl (all_mem (d := D i) (List.mem_map.2 ⟨i, List.mem_range.2 hi, rfl⟩) hy))

/-- a graph lies in memory, however great -/
structure GrIn (w : World) (ao : Option Addr) (n : Nat) (ko : Option Addr) (kn : Nat) (hs : List RH) (g : Gr) : Prop where
  sl : Lay fS w ao n g.sl
  kh : Lay fR w ko kn hs
  len : hs.length = g.ks.length
  row : ∀ k, k < hs.length → Lay f2 w (nth dRH hs k).ao (nth dRH hs k).n (nth [] g.ks k)
  n1 : n ≤ 9223372036854775807
  n2 : kn ≤ 9223372036854775807
  n3 : ∀ k, k < hs.length → (nth dRH hs k).n ≤ 8796093022208
  n4 : ∀ k, k < hs.length → (nth dRH hs k).n ≤ (nth dRH hs k).cap
  n5 : ∀ k, k < hs.length → (nth dRH hs k).ao = none → (nth dRH hs k).n = 0 ∧ (nth dRH hs k).cap = 0
theorem GrIn.few {w : World} {ao : Option Addr} {n : Nat} {ko : Option Addr} {kn : Nat} {hs : List RH} {g : Gr} (h : GrIn w ao n ko kn hs g) (hg : greatB n kn hs = false) : GrAt w ao n ko kn hs g := by
  obtain ⟨h1, h2, h3⟩ := great_no hg
  refine ⟨h.sl, h.kh, h.len, h.row, by omega, by omega, fun k hk => ?_, h.n4, h.n5⟩
  rw [h.kh.len] at hk
  have := sum_at hs hk
  omega

theorem row_cells {fuel : Nat} {x : DataW H × List MemPlace} {c0 : Value} (ht : P.underlying t = some (.slice e)) (hc : P.cellsOf e = 2) (hf : flatB P 4 e = true) (hb : P.bytesOf e = 16) (h : DataW.trod enc P W base spare held fuel t [c0] = some x) (hS : Sm P t x.1) :
    ∃ r : RH, [c0] = fR r ∧ ∃ l : List (Int × Int), Lay f2 W r.ao r.n l ∧ r.n ≤ 8796093022208 ∧ r.n ≤ r.cap ∧ (r.ao = none → r.n = 0 ∧ r.cap = 0) := by
  obtain ⟨ao, n, cap, rfl, _, h2, h3, h4, h5⟩ := open_slS ht hc (by decide) h hS
  have h5' : RowsAt W ao n 2 (fun cs => ∃ m y, DataW.trod enc P W base spare held m e cs = some y) := by
    rcases h5 with h | ⟨g, off, e1, hg, h⟩
    · exact .inl h
    · exact .inr ⟨g, off, e1, hg, fun i hi => by obtain ⟨cs, a, b, m, y, c, _⟩ := h i hi; exact ⟨cs, a, b, m, y, c⟩⟩
  obtain ⟨l, hl⟩ := lay_twos hf h5'
  rw [hb] at h3
  exact ⟨⟨ao, n, cap⟩, rfl, l, hl, by unfold reachBytes at h3; simp only; omega, h2, h4⟩

theorem open_graph {r : Go.Reach} {b0 : Nat} {v : Value} {d : DataW H} {p : List MemPlace} (hG : P.underlying tg = some (.struct #[f0, f1])) (hone : oneCellFields P #[f0, f1] = true) (hCG : P.cellsOf tg = 2)
    (hA : P.underlying f0.type = some (.struct #[g0])) (honeA : oneCellFields P #[g0] = true) (hg : P.underlying g0.type = some (.slice ts)) (hC : P.cellsOf ts = 2)
    (hs : P.underlying ts = some (.struct #[s0, s1])) (honeS : oneCellFields P #[s0, s1] = true) (hk : P.underlying s0.type = some (.int .i64)) (hi : P.underlying s1.type = some .bool)
    (hK : P.underlying f1.type = some (.slice te)) (hC1 : P.cellsOf te = 1) (hR : P.underlying te = some (.slice e)) (hc : P.cellsOf e = 2) (hf : flatB P 4 e = true) (hb : P.bytesOf e = 16)
    (hS : Sm P tg d) (hv : Value.okWide P W r b0 tg v) (h : DataW.Trod enc P W base spare held tg v d p) :
    ∃ (ao : Option Addr) (n cap : Nat) (ko : Option Addr) (kn kcap : Nat) (hs : List RH) (g : Gr), v = .agg #[.slice ao n cap, .slice ko kn kcap] ∧ GrIn W ao n ko kn hs g := by
  obtain ⟨cs, rfl, hsz⟩ := okWide_struct hG hv
  obtain ⟨c0, c1, rfl⟩ := Joins.array2 (hsz.trans hCG)
  obtain ⟨fuel, hx⟩ := h
  obtain ⟨y0, y1, n, hx1, _, h0, h1⟩ := trod_struct2 hG (by simpa [Value.cells] using hx)
  obtain ⟨o0, k0⟩ := hone_of hone 0 f0 rfl
  obtain ⟨o1, k1⟩ := hone_of hone 1 f1 rfl
  have h0' : DataW.trod enc P W base spare held n f0.type [c0] = some y0 := by simpa [o0, k0] using h0
  have h1' : DataW.trod enc P W base spare held n f1.type [c1] = some y1 := by simpa [o1, k1] using h1
  obtain rfl : d = .agg [y0.1, y1.1] := congrArg Prod.fst hx1
  have hS1 : Sm P f1.type y1.1 := sm_field hG hS (j := 1) rfl rfl
  obtain ⟨xs, n', _, _, hl, hlen, hfl⟩ := DataW.trod_struct hA h0'
  obtain ⟨o2, k2⟩ := hone_of honeA 0 g0 rfl
  have h2 := hfl 0 g0 rfl
  rw [List.getElem?_eq_getElem (by simp at hlen; omega)] at h2
  obtain ⟨y2, h2'⟩ : ∃ y, DataW.trod enc P W base spare held n' g0.type [c0] = some y := ⟨_, by simpa [o2, k2] using h2⟩
  obtain ⟨ao, m, cap, rfl, hn, _, hor⟩ := open_sl hg hC (by decide) h2'
  obtain ⟨l, hl⟩ := lay_slots hs honeS hk hi hor
  obtain ⟨ko, kn, kcap, rfl, hkn, _, _, _, hrows⟩ := open_slS hK hC1 (by decide) h1' hS1
  obtain ⟨hs', hlr, hR'⟩ := lay_rows (f := fR) (R := fun r => ∃ l : List (Int × Int), Lay f2 W r.ao r.n l ∧ r.n ≤ 8796093022208 ∧ r.n ≤ r.cap ∧ (r.ao = none → r.n = 0 ∧ r.cap = 0)) dRH (by decide) fR_c hrows (by
    rintro cs hl ⟨m, y, hy, hSy⟩
    match cs, hl, hy with
    | [a], _, hy => exact row_cells hR hc hf hb hy hSy)
  have hR'' : ∀ k, ∃ l : List (Int × Int), k < kn → Lay f2 W (nth dRH hs' k).ao (nth dRH hs' k).n l ∧ (nth dRH hs' k).n ≤ 8796093022208 ∧ (nth dRH hs' k).n ≤ (nth dRH hs' k).cap ∧ ((nth dRH hs' k).ao = none → (nth dRH hs' k).n = 0 ∧ (nth dRH hs' k).cap = 0) := by
    intro k
    by_cases hk : k < kn
    · obtain ⟨l, hl⟩ := hR' k hk
      exact ⟨l, fun _ => hl⟩
    · exact ⟨[], fun h => absurd h hk⟩
  have hlk := hlr.len
  refine ⟨ao, m, cap, ko, kn, kcap, hs', ⟨l, (List.range kn).map fun k => Classical.choose (hR'' k)⟩, rfl, ⟨hl, hlr, by simp [hlk], fun k hk => ?_, hn, hkn, fun k hk => ?_, fun k hk => ?_, fun k hk => ?_⟩⟩
  · rw [hlk] at hk
    show Lay f2 W _ _ (nth [] ((List.range kn).map fun k => Classical.choose (hR'' k)) k)
    rw [nth_range hk]
    exact (Classical.choose_spec (hR'' k) hk).1
  · exact (Classical.choose_spec (hR'' k) (by omega)).2.1
  · exact (Classical.choose_spec (hR'' k) (by omega)).2.2.1
  · exact (Classical.choose_spec (hR'' k) (by omega)).2.2.2
end
end Go.Proofs.Ytmmflpjfgapaaaa
