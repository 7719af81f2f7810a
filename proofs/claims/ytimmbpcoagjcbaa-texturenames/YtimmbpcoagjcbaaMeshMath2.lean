/- Primitives and meshes in memory. -/
import Derived.Test.YtimmbpcoagjcbaaMeshMath
namespace Go.Proofs.Ytimmbpcoagjcbaa
open Go.RowKit

theorem cell_lt {w : World} {g i : Nat} {v : Value} (h : w.cell? ⟨g, i, none⟩ = some v) : g < w.heap.size := by
  by_cases hg : g < w.heap.size
  · exact hg
  · rw [cell_none _ _ _ (by omega)] at h
    cases h
theorem cell_ex {w w' : World} {g i : Nat} {v : Value} (hw : ∃ y, w' = plus w y) (h : w.cell? ⟨g, i, none⟩ = some v) : w'.cell? ⟨g, i, none⟩ = some v := by
  obtain ⟨y, rfl⟩ := hw
  rw [plus_cell _ _ _ _ (cell_lt h)]
  exact h
theorem size_ex {w w' : World} (hw : ∃ y, w' = plus w y) : w.heap.size ≤ w'.heap.size := by
  obtain ⟨y, rfl⟩ := hw
  rw [plus_size]
  omega
theorem ex_trans {w w1 w2 : World} (h1 : ∃ y, w1 = plus w y) (h2 : ∃ y, w2 = plus w1 y) : ∃ y, w2 = plus w y := by
  obtain ⟨y, rfl⟩ := h2
  exact ex_plus h1

theorem ex_on {w w1 w2 : World} (h2 : ∃ y, w2 = plus w1 y) (h1 : ∃ y, w1 = plus w y) : ∃ y, w2 = plus w y := ex_trans h1 h2
theorem below_ex {w w' : World} (h : ∃ y, w' = plus w y) : Below w.heap.size w w' := by
  obtain ⟨y, rfl⟩ := h
  exact plus_below w y

/-- a primitive's cells; what they hold -/
structure PH where
  kind : Int
  ao : Option Addr
  n : Nat
  cap : Nat
def fP (h : PH) : List Value := [.int .u8 h.kind, .slice h.ao h.n h.cap]
theorem fP_c : ∀ x, (fP x).length = 2 := fun _ => rfl
theorem fP_1 : ∀ x, ∀ u ∈ fP x, u.oneCell' = true := by intro x u hu; simp only [fP, List.mem_cons, List.not_mem_nil, or_false] at hu; rcases hu with rfl | rfl <;> rfl
def dPH : PH := ⟨0, none, 0, 0⟩
def dPr : Pr := ⟨0, []⟩
theorem cellP {w : World} {g off n k : Nat} {l : List PH} (hl : l.length = n) (h : ∀ j u, (l.flatMap fP)[j]? = some u → w.cell? ⟨g, off + j, none⟩ = some u) (hk : k < n) :
    w.cell? ⟨g, off + k * 2, none⟩ = some (.int .u8 (nth dPH l k).kind) ∧ w.cell? ⟨g, off + k * 2 + 1, none⟩ = some (.slice (nth dPH l k).ao (nth dPH l k).n (nth dPH l k).cap) := by
  have h0 := cell_nth (d := dPH) hl fP_c h k 0 _ hk (by decide) rfl
  have h1 := cell_nth (d := dPH) hl fP_c h k 1 _ hk (by decide) rfl
  rw [Nat.add_zero] at h0
  rw [← Nat.add_assoc] at h1
  exact ⟨h0, h1⟩

/-- a primitive p lies in w as the cells h say -/
structure PrimAt (w : World) (h : PH) (p : Pr) : Prop where
  kind : h.kind = p.kind
  lo : 0 ≤ p.kind
  hi : p.kind ≤ 255
  le : h.n ≤ 9223372036854775807
  nil : h.ao = none → h.n = 0 ∧ h.cap = 0
  lay : Lay fI w h.ao h.n p.ix
structure PrimsAt (w : World) (hs : List PH) (ps : List Pr) : Prop where
  len : hs.length = ps.length
  one : ∀ k, k < hs.length → PrimAt w (nth dPH hs k) (nth dPr ps k)
theorem PrimAt.ex {w w' : World} {h : PH} {p : Pr} (a : PrimAt w h p) (hw : ∃ x, w' = plus w x) : PrimAt w' h p := ⟨a.kind, a.lo, a.hi, a.le, a.nil, a.lay.ex hw⟩
theorem PrimsAt.ex {w w' : World} {hs : List PH} {ps : List Pr} (a : PrimsAt w hs ps) (hw : ∃ x, w' = plus w x) : PrimsAt w' hs ps := ⟨a.len, fun k hk => (a.one k hk).ex hw⟩

/-- a mesh -/
structure Ms where
  vs : List V3
  uv : List (Int × Int)
  ps : List Pr
/-- where its lists lie -/
structure MH where
  va : Option Addr
  vn : Nat
  vc : Nat
  ua : Option Addr
  un : Nat
  uc : Nat
  pa : Option Addr
  pn : Nat
  pc : Nat
def fM (h : MH) : Value := .agg #[.slice h.va h.vn h.vc, .slice h.ua h.un h.uc, .slice h.pa h.pn h.pc]
structure MeshAt (w : World) (h : MH) (hs : List PH) (m : Ms) : Prop where
  vle : h.vn ≤ 9223372036854775807
  ule : h.un ≤ 9223372036854775807
  ple : h.pn ≤ 9223372036854775807
  vnil : h.va = none → h.vn = 0 ∧ h.vc = 0
  unil : h.ua = none → h.un = 0 ∧ h.uc = 0
  pnil : h.pa = none → h.pn = 0 ∧ h.pc = 0
  vl : Lay fV w h.va h.vn m.vs
  ul : Lay f2 w h.ua h.un m.uv
  pl : Lay fP w h.pa h.pn hs
  pp : PrimsAt w hs m.ps
theorem MeshAt.ex {w w' : World} {h : MH} {hs : List PH} {m : Ms} (a : MeshAt w h hs m) (hw : ∃ x, w' = plus w x) : MeshAt w' h hs m :=
  ⟨a.vle, a.ule, a.ple, a.vnil, a.unil, a.pnil, a.vl.ex hw, a.ul.ex hw, a.pl.ex hw, a.pp.ex hw⟩

end Go.Proofs.Ytimmbpcoagjcbaa
