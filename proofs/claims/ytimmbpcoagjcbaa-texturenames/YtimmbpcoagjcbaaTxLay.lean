/- Colours and textures in memory, as arguments; what may be, and the document's answers in plain words. -/
import Derived.Test.YtimmbpcoagjcbaaMix
import Derived.Test.YtimmbpcoagjcbaaMeshMath2
namespace Go.Proofs.Ytimmbpcoagjcbaa
open Go.RowKit Go.ChangeShapes Go.WideShapes Go.ChangeAt Go.Deep

/-- a colour -/
structure Cl where
  r : Int
  g : Int
  b : Int
  a : Int
def fCl (c : Cl) : List Value := [.int .u8 c.r, .int .u8 c.g, .int .u8 c.b, .int .u8 c.a]
def vCl (c : Cl) : Value := .agg #[.int .u8 c.r, .int .u8 c.g, .int .u8 c.b, .int .u8 c.a]
def cl0 : Cl := ⟨0, 0, 0, 0⟩
def ClB (c : Cl) : Prop := (0 ≤ c.r ∧ c.r ≤ 255) ∧ (0 ≤ c.g ∧ c.g ≤ 255) ∧ (0 ≤ c.b ∧ c.b ≤ 255) ∧ (0 ≤ c.a ∧ c.a ≤ 255)
theorem fCl_c : ∀ x, (fCl x).length = 4 := fun _ => rfl
theorem fCl_1 : ∀ x, ∀ u ∈ fCl x, u.oneCell' = true := by intro x u hu; simp only [fCl, List.mem_cons, List.not_mem_nil, or_false] at hu; rcases hu with rfl | rfl | rfl | rfl <;> rfl
theorem cellCl {w : World} {g off n k : Nat} {l : List Cl} (hl : l.length = n) (h : ∀ j u, (l.flatMap fCl)[j]? = some u → w.cell? ⟨g, off + j, none⟩ = some u) (hk : k < n) :
    w.cell? ⟨g, off + k * 4, none⟩ = some (.int .u8 (nth cl0 l k).r) ∧ w.cell? ⟨g, off + k * 4 + 1, none⟩ = some (.int .u8 (nth cl0 l k).g) ∧ w.cell? ⟨g, off + k * 4 + 2, none⟩ = some (.int .u8 (nth cl0 l k).b) ∧ w.cell? ⟨g, off + k * 4 + 3, none⟩ = some (.int .u8 (nth cl0 l k).a) := by
  have h0 := cell_nth (d := cl0) hl fCl_c h k 0 _ hk (by decide) rfl
  have h1 := cell_nth (d := cl0) hl fCl_c h k 1 _ hk (by decide) rfl
  have h2 := cell_nth (d := cl0) hl fCl_c h k 2 _ hk (by decide) rfl
  have h3 := cell_nth (d := cl0) hl fCl_c h k 3 _ hk (by decide) rfl
  rw [Nat.add_zero] at h0
  rw [← Nat.add_assoc] at h1 h2 h3
  exact ⟨h0, h1, h2, h3⟩

/-- what '==' says of two colours -/
def eqC (a0 a1 a2 a3 b0 b1 b2 b3 : Int) : Bool := a0 == b0 && (a1 == b1 && (a2 == b2 && (a3 == b3)))
theorem eqC_refl (a0 a1 a2 a3 : Int) : eqC a0 a1 a2 a3 a0 a1 a2 a3 = true := by simp [eqC]
def eqCl (c d : Cl) : Bool := eqC c.r c.g c.b c.a d.r d.g d.b d.a
theorem eqCl_refl (c : Cl) : eqCl c c = true := eqC_refl _ _ _ _
theorem eqCl_eq {c d : Cl} (h : eqCl c d = true) : c = d := by
  obtain ⟨c0, c1, c2, c3⟩ := c
  obtain ⟨d0, d1, d2, d3⟩ := d
  simp only [eqCl, eqC, Bool.and_eq_true, beq_iff_eq] at h
  obtain ⟨h0, h1, h2, h3⟩ := h
  rw [h0, h1, h2, h3]
def sameC (l l2 : List Cl) : Bool := sameL eqCl cl0 l l2
theorem sameC_refl (l : List Cl) : sameC l l = true := same_refl eqCl_refl l

/-- a texture's cells -/
structure TH where
  w : Int
  h : Int
  ao : Option Addr
  n : Nat
  cap : Nat
def fTh (t : TH) : List Value := [.int .i64 t.w, .int .i64 t.h, .slice t.ao t.n t.cap]
def vTh (t : TH) : Value := .agg #[.int .i64 t.w, .int .i64 t.h, .slice t.ao t.n t.cap]
def th0 : TH := ⟨0, 0, none, 0, 0⟩
theorem fTh_c : ∀ x, (fTh x).length = 3 := fun _ => rfl
theorem fTh_1 : ∀ x, ∀ u ∈ fTh x, u.oneCell' = true := by intro x u hu; simp only [fTh, List.mem_cons, List.not_mem_nil, or_false] at hu; rcases hu with rfl | rfl | rfl <;> rfl
theorem cellTh {w : World} {g off n k : Nat} {l : List TH} (hl : l.length = n) (h : ∀ j u, (l.flatMap fTh)[j]? = some u → w.cell? ⟨g, off + j, none⟩ = some u) (hk : k < n) :
    w.cell? ⟨g, off + k * 3, none⟩ = some (.int .i64 (nth th0 l k).w) ∧ w.cell? ⟨g, off + k * 3 + 1, none⟩ = some (.int .i64 (nth th0 l k).h) ∧ w.cell? ⟨g, off + k * 3 + 2, none⟩ = some (.slice (nth th0 l k).ao (nth th0 l k).n (nth th0 l k).cap) := by
  have h0 := cell_nth (d := th0) hl fTh_c h k 0 _ hk (by decide) rfl
  have h1 := cell_nth (d := th0) hl fTh_c h k 1 _ hk (by decide) rfl
  have h2 := cell_nth (d := th0) hl fTh_c h k 2 _ hk (by decide) rfl
  rw [Nat.add_zero] at h0
  rw [← Nat.add_assoc] at h1 h2
  exact ⟨h0, h1, h2⟩

/-- the texels of a texture lie in w as the cells h say -/
structure TxAt (w : World) (h : TH) (l : List Cl) : Prop where
  le : h.n ≤ 9223372036854775807
  nil : h.ao = none → h.n = 0 ∧ h.cap = 0
  lay : Lay fCl w h.ao h.n l
  ok : ∀ k, k < h.n → ClB (nth cl0 l k)
theorem TxAt.ex {w w' : World} {h : TH} {l : List Cl} (a : TxAt w h l) (hw : ∃ x, w' = plus w x) : TxAt w' h l := ⟨a.le, a.nil, a.lay.ex hw, a.ok⟩
structure TxsAt (w : World) (hs : List TH) (ls : List (List Cl)) : Prop where
  len : hs.length = ls.length
  one : ∀ k, k < hs.length → TxAt w (nth th0 hs k) (nth [] ls k)
theorem TxsAt.ex {w w' : World} {hs : List TH} {ls : List (List Cl)} (a : TxsAt w hs ls) (hw : ∃ x, w' = plus w x) : TxsAt w' hs ls := ⟨a.len, fun k hk => (a.one k hk).ex hw⟩

section
variable {H : Type} {enc : TypeId × Value → H} {P : Program} {W : World} {base : Nat} {spare : Nat → Bool} {held : Bool}

theorem color_cells {t : TypeId} {fuel : Nat} {x : DataW H × List MemPlace} {cs : List Value} (hk : (List.range 4).map (kindAt P 4 t) = [1, 1, 1, 1]) (hl : cs.length = 4)
    (h : DataW.trod enc P W base spare held fuel t cs = some x) : ∃ c : Cl, cs = fCl c ∧ ClB c := by
  have hc := mix_cell 4 t fuel cs x h
  have hq : ∀ j, j < 4 → kindAt P 4 t j = 1 := by
    intro j hj
    have h1 : ((List.range 4).map (kindAt P 4 t))[j]? = some (kindAt P 4 t j) := by simp [hj]
    rw [hk] at h1
    match j, hj with
    | 0, _ => simpa using h1.symm
    | 1, _ => simpa using h1.symm
    | 2, _ => simpa using h1.symm
    | 3, _ => simpa using h1.symm
  match cs, hl, hc with
  | [c0, c1, c2, c3], _, hc =>
    have q0 := hc 0 c0 rfl
    have q1 := hc 1 c1 rfl
    have q2 := hc 2 c2 rfl
    have q3 := hc 3 c3 rfl
    rw [hq 0 (by decide)] at q0
    rw [hq 1 (by decide)] at q1
    rw [hq 2 (by decide)] at q2
    rw [hq 3 (by decide)] at q3
    obtain ⟨n0, rfl, b0⟩ := q0
    obtain ⟨n1, rfl, b1⟩ := q1
    obtain ⟨n2, rfl, b2⟩ := q2
    obtain ⟨n3, rfl, b3⟩ := q3
    exact ⟨⟨n0, n1, n2, n3⟩, rfl, b0, b1, b2, b3⟩
theorem lay_colors {t : TypeId} {ao : Option Addr} {n : Nat} (hk : (List.range 4).map (kindAt P 4 t) = [1, 1, 1, 1])
    (h : RowsAt W ao n 4 (fun cs => ∃ m y, DataW.trod enc P W base spare held m t cs = some y)) : ∃ l : List Cl, Lay fCl W ao n l ∧ ∀ k, k < n → ClB (nth cl0 l k) :=
  lay_rows (f := fCl) (R := ClB) cl0 (by decide) fCl_c h (by
    rintro cs hl ⟨m, y, hy⟩
    exact color_cells hk hl hy)

variable {f0 f1 f2 : Field} {t e : TypeId}
theorem tex_cells {fuel : Nat} {x : DataW H × List MemPlace} {cs : List Value} (hs : P.underlying t = some (.struct #[f0, f1, f2])) (hone : oneCellFields P #[f0, f1, f2] = true) (h0 : P.underlying f0.type = some (.int .i64)) (h1 : P.underlying f1.type = some (.int .i64)) (h2 : P.underlying f2.type = some (.slice e))
    (hc : P.cellsOf e = 4) (hk : (List.range 4).map (kindAt P 4 e) = [1, 1, 1, 1]) (hl : cs.length = 3) (h : DataW.trod enc P W base spare held fuel t cs = some x) : ∃ hh l, cs = fTh hh ∧ TxAt W hh l := by
  obtain ⟨y0, y1, y2, n, hx, _, t0, t1, t2⟩ := trod_struct3 hs h
  obtain ⟨o0, k0⟩ := hone_of hone 0 f0 rfl
  obtain ⟨o1, k1⟩ := hone_of hone 1 f1 rfl
  obtain ⟨o2, k2⟩ := hone_of hone 2 f2 rfl
  match cs, hl, t0, t1, t2 with
  | [c0, c1, c2], _, t0, t1, t2 =>
    have t0' : DataW.trod enc P W base spare held n f0.type [c0] = some y0 := by simpa [o0, k0] using t0
    have t1' : DataW.trod enc P W base spare held n f1.type [c1] = some y1 := by simpa [o1, k1] using t1
    have t2' : DataW.trod enc P W base spare held n f2.type [c2] = some y2 := by simpa [o2, k2] using t2
    obtain ⟨a, ea, _, _⟩ := DataW.trod_int h0 t0'
    obtain rfl : c0 = .int .i64 a := by simpa using ea
    obtain ⟨b, eb, _, _⟩ := DataW.trod_int h1 t1'
    obtain rfl : c1 = .int .i64 b := by simpa using eb
    obtain ⟨ao, m, cap, rfl, hn, hz, ho⟩ := open_sl h2 hc (by decide) t2'
    obtain ⟨l, hl, hb⟩ := lay_colors hk ho
    exact ⟨⟨a, b, ao, m, cap⟩, l, rfl, hn, hz, hl, hb⟩

theorem open_tex {r : Reach} {b0 : Nat} {v : Value} {d : DataW H} {p : List MemPlace} (hs : P.underlying t = some (.struct #[f0, f1, f2])) (hone : oneCellFields P #[f0, f1, f2] = true) (hC : P.cellsOf t = 3) (ha : aggB P t = true) (h0 : P.underlying f0.type = some (.int .i64)) (h1 : P.underlying f1.type = some (.int .i64)) (h2 : P.underlying f2.type = some (.slice e))
    (hc : P.cellsOf e = 4) (hk : (List.range 4).map (kindAt P 4 e) = [1, 1, 1, 1]) (hv : Value.okWide P W r b0 t v) (h : DataW.Trod enc P W base spare held t v d p) : ∃ hh l, v = vTh hh ∧ TxAt W hh l := by
  obtain ⟨cs, fuel, x, rfl, hl, hx⟩ := open_agg ha hv h
  obtain ⟨hh, l, rfl, ht⟩ := tex_cells hs hone h0 h1 h2 hc hk (hl.trans hC) hx
  exact ⟨hh, l, rfl, ht⟩

theorem lay_texs {ao : Option Addr} {n : Nat} (hs : P.underlying t = some (.struct #[f0, f1, f2])) (hone : oneCellFields P #[f0, f1, f2] = true) (h0 : P.underlying f0.type = some (.int .i64)) (h1 : P.underlying f1.type = some (.int .i64)) (h2 : P.underlying f2.type = some (.slice e))
    (hc : P.cellsOf e = 4) (hk : (List.range 4).map (kindAt P 4 e) = [1, 1, 1, 1]) (h : RowsAt W ao n 3 (fun cs => ∃ m y, DataW.trod enc P W base spare held m t cs = some y)) : ∃ hs ls, Lay fTh W ao n hs ∧ TxsAt W hs ls := by
  obtain ⟨l, hl, hR⟩ := lay_rows (f := fTh) (R := fun hh => ∃ p, TxAt W hh p) th0 (by decide) fTh_c h (by
    rintro cs hl ⟨m, y, hy⟩
    obtain ⟨hh, l, e1, hp⟩ := tex_cells hs hone h0 h1 h2 hc hk hl hy
    exact ⟨hh, e1, l, hp⟩)
  have hR' : ∀ k, ∃ p, k < n → TxAt W (nth th0 l k) p := by
    intro k
    by_cases hk : k < n
    · obtain ⟨p, hp⟩ := hR k hk
      exact ⟨p, fun _ => hp⟩
    · exact ⟨[], fun h => absurd h hk⟩
  refine ⟨l, (List.range n).map fun k => Classical.choose (hR' k), hl, ⟨by simp [hl.len], fun k hk => ?_⟩⟩
  rw [hl.len] at hk
  rw [nth_range hk]
  exact Classical.choose_spec (hR' k) hk
end

/-! what may be; the answers -/
def side (n : Int) : Bool := decide (1 ≤ n ∧ n ≤ 16)
def plc (n : Int) : Bool := decide (0 ≤ n ∧ n ≤ 255)
def mayT (w h : Int) (n : Nat) : Bool := side w && (side h && decide ((n : Int) = w * h))
def mayH (t : TH) : Bool := mayT t.w t.h t.n
def errT (w h : Int) (n : Nat) : Int := if mayT w h n then 0 else 8
def checksT (hs : List TH) : Int := if 16 < hs.length then 4 else if hs.all mayH then 0 else 8
def spot (w h u v : Int) : Int := v * h / 256 * w + u * w / 256
def atT (w h : Int) (n : Nat) (l : List Cl) (u v : Int) : Cl × Int :=
  if mayT w h n then if plc u && plc v then (nth cl0 l (spot w h u v).toNat, 0) else (cl0, 2) else (cl0, 8)
def sameT (w h : Int) (l : List Cl) (w2 h2 : Int) (l2 : List Cl) : Bool := decide (w = w2) && (decide (h = h2) && sameC l l2)
theorem sameT_refl (w h : Int) (l : List Cl) : sameT w h l w h l = true := by simp [sameT, sameC_refl]
theorem mayT_iff {w h : Int} {n : Nat} : mayT w h n = true ↔ (1 ≤ w ∧ w ≤ 16) ∧ (1 ≤ h ∧ h ≤ 16) ∧ (n : Int) = w * h := by
  simp [mayT, side, Bool.and_eq_true]
theorem mayT_side {w h : Int} {n : Nat} (hw : side w = false) : mayT w h n = false := by simp [mayT, hw]
theorem mayT_side2 {w h : Int} {n : Nat} (hh : side h = false) : mayT w h n = false := by simp [mayT, hh]
theorem mayT_len {w h : Int} {n : Nat} (hn : ¬ (n : Int) = w * h) : mayT w h n = false := by simp [mayT, hn]
theorem mayT_yes {w h : Int} {n : Nat} (hw : side w = true) (hh : side h = true) (hn : (n : Int) = w * h) : mayT w h n = true := by simp [mayT, hw, hh, hn]
theorem side_iff {n : Int} : side n = true ↔ 1 ≤ n ∧ n ≤ 16 := by simp [side]
theorem plc_iff {n : Int} : plc n = true ↔ 0 ≤ n ∧ n ≤ 255 := by simp [plc]

theorem mul_le16 {w h : Int} (hw : 1 ≤ w ∧ w ≤ 16) (hh : 1 ≤ h ∧ h ≤ 16) : 1 ≤ w * h ∧ w * h ≤ 256 := by
  have h1 : 1 * 1 ≤ w * h := Int.mul_le_mul hw.1 hh.1 (by omega) (by omega)
  have h2 : w * h ≤ 16 * 16 := Int.mul_le_mul hw.2 hh.2 (by omega) (by omega)
  omega
/-- a place's column, or row, is one of the texture's -/
theorem col_lt {n u : Int} (hn : 1 ≤ n ∧ n ≤ 16) (hu : 0 ≤ u ∧ u ≤ 255) : 0 ≤ u * n ∧ u * n ≤ 4080 ∧ 0 ≤ u * n / 256 ∧ u * n / 256 < n := by
  have h1 : 0 * 0 ≤ u * n := Int.mul_le_mul hu.1 (by omega) (by omega) hu.1
  have h2 : u * n ≤ 255 * n := Int.mul_le_mul_of_nonneg_right hu.2 (by omega)
  omega
theorem spot_lt {w h u v : Int} (hw : 1 ≤ w ∧ w ≤ 16) (hh : 1 ≤ h ∧ h ≤ 16) (hu : 0 ≤ u ∧ u ≤ 255) (hv : 0 ≤ v ∧ v ≤ 255) : (0 ≤ v * h / 256 * w ∧ v * h / 256 * w ≤ 256) ∧ 0 ≤ spot w h u v ∧ spot w h u v < w * h := by
  obtain ⟨_, _, a0, a1⟩ := col_lt hw hu
  obtain ⟨_, _, b0, b1⟩ := col_lt hh hv
  unfold spot
  generalize u * w / 256 = c at *
  generalize v * h / 256 = r at *
  have h1 : 0 * 0 ≤ r * w := Int.mul_le_mul b0 (by omega) (by omega) b0
  have h2 : (r + 1) * w ≤ h * w := Int.mul_le_mul_of_nonneg_right (by omega) (by omega)
  rw [Int.add_mul, Int.one_mul, Int.mul_comm h w] at h2
  have h3 := (mul_le16 hw hh).2
  omega
end Go.Proofs.Ytimmbpcoagjcbaa
