/- The plain mathematics of meshes: which may be, and their triangles. -/
import Derived.Test.YtkiahgkfgcjkgaaMeshMath2
namespace Go.Proofs.Ytkiahgkfgcjkgaa
open Go.RowKit

def vOk (v : V3) : Bool := [v.x, v.y, v.z].all (inR (-1024) 1024)
def uOk (p : Int × Int) : Bool := [p.1, p.2].all (inR 0 255)
def pOk (nv : Nat) (p : Pr) : Bool := decide (prErr p = 0) && p.ix.all (inR 0 ((nv : Int) - 1))
/-- the triangles of the first k primitives -/
def tris (ps : List Pr) (k : Nat) : List V3 := (ps.take k).flatMap prTris
def trisN (ps : List Pr) (k : Nat) : Nat := (tris ps k).length
def psOk (nv : Nat) (ps : List Pr) : Bool := ps.all (pOk nv) && decide (trisN ps ps.length ≤ 64)
def msOk (m : Ms) : Bool := m.vs.all vOk && m.uv.length == m.vs.length && m.uv.all uOk && psOk m.vs.length m.ps
def msMany (m : Ms) : Prop := 64 < m.vs.length ∨ 64 < m.uv.length ∨ 16 < m.ps.length
def msErr (m : Ms) : Int := if 64 < m.vs.length ∨ 64 < m.uv.length ∨ 16 < m.ps.length then 4 else if msOk m = true then 0 else 40
def msList (m : Ms) : List V3 := if msErr m = 0 then tris m.ps m.ps.length else []

theorem tris_succ {ps : List Pr} {k : Nat} (hk : k < ps.length) : tris ps (k + 1) = tris ps k ++ prTris (nth dPr ps k) := by
  unfold tris
  rw [take_nth (d := dPr) hk, List.flatMap_append]
  simp
theorem trisN_succ {ps : List Pr} {k : Nat} (hk : k < ps.length) : trisN ps (k + 1) = trisN ps k + (prTris (nth dPr ps k)).length := by
  unfold trisN
  rw [tris_succ hk, List.length_append]
theorem prTris_200 {p : Pr} (h : prErr p = 0) : (prTris p).length ≤ 200 := by
  have h1 := prTris_le p
  unfold prErr at h
  split at h
  · cases h
  · split at h
    · cases h
    · omega
theorem ix_200 {p : Pr} (h : prErr p = 0) : p.ix.length ≤ 200 := by
  unfold prErr at h
  split at h
  · cases h
  · split at h
    · cases h
    · omega
theorem trisN_le {ps : List Pr} : ∀ {k : Nat}, k ≤ ps.length → (∀ j, j < k → prErr (nth dPr ps j) = 0) → trisN ps k ≤ 200 * k
  | 0, _, _ => by simp [trisN, tris]
  | k + 1, hk, h => by
    rw [trisN_succ (by omega)]
    have h1 := trisN_le (k := k) (by omega) (fun j hj => h j (by omega))
    have h2 := prTris_200 (h k (by omega))
    omega
theorem pOk_err {nv : Nat} {p : Pr} (h : pOk nv p = true) : prErr p = 0 := by
  simp only [pOk, Bool.and_eq_true, decide_eq_true_eq] at h
  exact h.1
theorem pOk_in {nv : Nat} {p : Pr} (h : pOk nv p = true) : p.ix.all (inR 0 ((nv : Int) - 1)) = true := by
  simp only [pOk, Bool.and_eq_true] at h
  exact h.2
theorem pOk_not1 {nv : Nat} {p : Pr} (h : prErr p ≠ 0) : pOk nv p = false := by simp [pOk, h]
theorem pOk_not2 {nv : Nat} {p : Pr} (h : p.ix.all (inR 0 ((nv : Int) - 1)) = false) : pOk nv p = false := by rw [pOk, h, Bool.and_false]
theorem pOk_yes {nv : Nat} {p : Pr} (h : prErr p = 0) (h2 : p.ix.all (inR 0 ((nv : Int) - 1)) = true) : pOk nv p = true := by rw [pOk, h2, Bool.and_true, decide_eq_true_eq]; exact h
theorem ps_errs {nv : Nat} {ps : List Pr} {k : Nat} (h : ∀ j, j < k → pOk nv (nth dPr ps j) = true) : ∀ j, j < k → prErr (nth dPr ps j) = 0 := fun j hj => pOk_err (h j hj)

theorem msErr_or (m : Ms) : msErr m = 4 ∨ msErr m = 40 ∨ msErr m = 0 := by
  unfold msErr
  split
  · exact .inl rfl
  · split
    · exact .inr (.inr rfl)
    · exact .inr (.inl rfl)
theorem msErr_good {m : Ms} (h : msErr m = 0) : ¬ msMany m ∧ msOk m = true := by
  unfold msErr at h
  split at h
  · cases h
  · rename_i h1
    split at h
    · rename_i h2; exact ⟨h1, h2⟩
    · cases h
theorem msList_bad {m : Ms} (h : msErr m ≠ 0) : msList m = [] := if_neg h
theorem msList_good {m : Ms} (h : msErr m = 0) : msList m = tris m.ps m.ps.length := if_pos h
theorem msOk_ps {m : Ms} (h : msOk m = true) : psOk m.vs.length m.ps = true := by
  simp only [msOk, Bool.and_eq_true] at h
  exact h.2
theorem psOk_all {nv : Nat} {ps : List Pr} (h : psOk nv ps = true) : ∀ j, j < ps.length → pOk nv (nth dPr ps j) = true := by
  simp only [psOk, Bool.and_eq_true] at h
  exact fun j hj => all_at h.1 hj
theorem psOk_le {nv : Nat} {ps : List Pr} (h : psOk nv ps = true) : trisN ps ps.length ≤ 64 := by
  simp only [psOk, Bool.and_eq_true, decide_eq_true_eq] at h
  exact h.2

theorem corner_in {kind : Int} {ix : List Int} {k : Nat} (hk : k < (prTris ⟨kind, ix⟩).length) :
    ∃ q0 q1 q2, q0 < ix.length ∧ q1 < ix.length ∧ q2 < ix.length ∧ nth zeroV (prTris ⟨kind, ix⟩) k = ⟨nth 0 ix q0, nth 0 ix q1, nth 0 ix q2⟩ := by
  unfold prTris at *
  by_cases h1 : kind = 1
  · simp only [h1, if_true, firsts_length] at *
    rw [nth_firsts hk]
    by_cases np : k % 2 = 1
    · exact ⟨k + 1, k, k + 2, by omega, by omega, by omega, by simp [stripT, np]⟩
    · exact ⟨k, k + 1, k + 2, by omega, by omega, by omega, by simp [stripT, np]⟩
  · by_cases h2 : kind = 2
    · subst h2
      simp only [show ¬ (2 : Int) = 1 by decide, if_true, if_false, firsts_length] at *
      rw [nth_firsts hk]
      exact ⟨0, k + 1, k + 2, by omega, by omega, by omega, rfl⟩
    · simp only [h1, h2, if_false, firsts_length] at *
      rw [nth_firsts hk]
      exact ⟨3 * k, 3 * k + 1, 3 * k + 2, by omega, by omega, by omega, rfl⟩

/-- each corner of a mesh that may be is one of its numbers -/
theorem tri_in {nv : Nat} {ps : List Pr} (h : ∀ j, j < ps.length → pOk nv (nth dPr ps j) = true) {k : Nat} (hk : k < trisN ps ps.length) :
    (0 ≤ (nth zeroV (tris ps ps.length) k).x ∧ (nth zeroV (tris ps ps.length) k).x < nv) ∧ (0 ≤ (nth zeroV (tris ps ps.length) k).y ∧ (nth zeroV (tris ps ps.length) k).y < nv) ∧ (0 ≤ (nth zeroV (tris ps ps.length) k).z ∧ (nth zeroV (tris ps ps.length) k).z < nv) := by
  have hm : nth zeroV (tris ps ps.length) k ∈ tris ps ps.length := nth_mem hk
  generalize nth zeroV (tris ps ps.length) k = v at *
  unfold tris at hm
  rw [List.take_length] at hm
  obtain ⟨p, hp, hv⟩ := List.mem_flatMap.1 hm
  obtain ⟨i, hi, rfl⟩ := List.getElem_of_mem hp
  have h1 := pOk_in (h i hi)
  rw [nth_eq hi] at h1
  obtain ⟨q, hq, rfl⟩ := List.getElem_of_mem hv
  obtain ⟨q0, q1, q2, h2, h3, h4, h5⟩ := corner_in (kind := ps[i].kind) (ix := ps[i].ix) (k := q) hq
  rw [nth_eq hq] at h5
  have g0 := all_at (d := 0) h1 h2
  have g1 := all_at (d := 0) h1 h3
  have g2 := all_at (d := 0) h1 h4
  simp only [inR, decide_eq_true_eq] at g0 g1 g2
  rw [h5]
  exact ⟨⟨g0.1, Int.lt_of_le_sub_one g0.2⟩, ⟨g1.1, Int.lt_of_le_sub_one g1.2⟩, ⟨g2.1, Int.lt_of_le_sub_one g2.2⟩⟩
end Go.Proofs.Ytkiahgkfgcjkgaa
