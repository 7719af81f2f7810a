/- The plain mathematics of layer 4: what lies in a cell; the triangles of a primitive, of a mesh; which of them may be. -/
import Derived.Test.YtimmbpcoagjcbaaLay
import Derived.Test.YtimmbpcoagjcbaaVecMath
namespace Go.Proofs.Ytimmbpcoagjcbaa
open Go.RowKit

/-- the cells of a number, of a point (or three numbers), of two numbers -/
def fI (n : Int) : List Value := [.int .i64 n]
def fV (v : V3) : List Value := [.int .i64 v.x, .int .i64 v.y, .int .i64 v.z]
def f2 (p : Int × Int) : List Value := [.int .i64 p.1, .int .i64 p.2]
theorem fI_c : ∀ x, (fI x).length = 1 := fun _ => rfl
theorem fV_c : ∀ x, (fV x).length = 3 := fun _ => rfl
theorem f2_c : ∀ x, (f2 x).length = 2 := fun _ => rfl
theorem fI_1 : ∀ x, ∀ u ∈ fI x, u.oneCell' = true := by intro x u hu; simp only [fI, List.mem_cons, List.not_mem_nil, or_false] at hu; subst hu; rfl
theorem fV_1 : ∀ x, ∀ u ∈ fV x, u.oneCell' = true := by intro x u hu; simp only [fV, List.mem_cons, List.not_mem_nil, or_false] at hu; rcases hu with rfl | rfl | rfl <;> rfl
theorem f2_1 : ∀ x, ∀ u ∈ f2 x, u.oneCell' = true := by intro x u hu; simp only [f2, List.mem_cons, List.not_mem_nil, or_false] at hu; rcases hu with rfl | rfl <;> rfl

section
variable {w : World} {g off n k : Nat}
theorem cellI {l : List Int} (hl : l.length = n) (h : ∀ j u, (l.flatMap fI)[j]? = some u → w.cell? ⟨g, off + j, none⟩ = some u) (hk : k < n) : w.cell? ⟨g, off + k, none⟩ = some (.int .i64 (nth 0 l k)) := by
  have := cell_nth (d := 0) hl fI_c h k 0 (.int .i64 (nth 0 l k)) hk (by decide) rfl
  rwa [Nat.mul_one, Nat.add_zero] at this
theorem cellV {l : List V3} (hl : l.length = n) (h : ∀ j u, (l.flatMap fV)[j]? = some u → w.cell? ⟨g, off + j, none⟩ = some u) (hk : k < n) :
    w.cell? ⟨g, off + k * 3, none⟩ = some (.int .i64 (nth zeroV l k).x) ∧ w.cell? ⟨g, off + k * 3 + 1, none⟩ = some (.int .i64 (nth zeroV l k).y) ∧ w.cell? ⟨g, off + k * 3 + 2, none⟩ = some (.int .i64 (nth zeroV l k).z) := by
  have h0 := cell_nth (d := zeroV) hl fV_c h k 0 _ hk (by decide) rfl
  have h1 := cell_nth (d := zeroV) hl fV_c h k 1 _ hk (by decide) rfl
  have h2 := cell_nth (d := zeroV) hl fV_c h k 2 _ hk (by decide) rfl
  rw [Nat.add_zero] at h0
  rw [← Nat.add_assoc] at h1 h2
  exact ⟨h0, h1, h2⟩
theorem cell2 {l : List (Int × Int)} (hl : l.length = n) (h : ∀ j u, (l.flatMap f2)[j]? = some u → w.cell? ⟨g, off + j, none⟩ = some u) (hk : k < n) :
    w.cell? ⟨g, off + k * 2, none⟩ = some (.int .i64 (nth (0, 0) l k).1) ∧ w.cell? ⟨g, off + k * 2 + 1, none⟩ = some (.int .i64 (nth (0, 0) l k).2) := by
  have h0 := cell_nth (d := (0, 0)) hl f2_c h k 0 _ hk (by decide) rfl
  have h1 := cell_nth (d := (0, 0)) hl f2_c h k 1 _ hk (by decide) rfl
  rw [Nat.add_zero] at h0
  rw [← Nat.add_assoc] at h1
  exact ⟨h0, h1⟩
end

/-- a primitive -/
structure Pr where
  kind : Int
  ix : List Int

def threeT (ix : List Int) (k : Nat) : V3 := ⟨nth 0 ix (3 * k), nth 0 ix (3 * k + 1), nth 0 ix (3 * k + 2)⟩
def stripT (ix : List Int) (k : Nat) : V3 := if k % 2 = 1 then ⟨nth 0 ix (k + 1), nth 0 ix k, nth 0 ix (k + 2)⟩ else ⟨nth 0 ix k, nth 0 ix (k + 1), nth 0 ix (k + 2)⟩
def fanT (ix : List Int) (k : Nat) : V3 := ⟨nth 0 ix 0, nth 0 ix (k + 1), nth 0 ix (k + 2)⟩
/-- the first k of what g tells -/
def firsts (g : Nat → V3) (k : Nat) : List V3 := (List.range k).map g
theorem firsts_succ (g : Nat → V3) (k : Nat) : firsts g k ++ [g k] = firsts g (k + 1) := by simp [firsts, List.range_succ]
theorem firsts_length (g : Nat → V3) (k : Nat) : (firsts g k).length = k := by simp [firsts]
theorem nth_firsts {d : V3} {g : Nat → V3} {n k : Nat} (hk : k < n) : nth d (firsts g n) k = g k := nth_range hk
def prTris (p : Pr) : List V3 := if p.kind = 1 then firsts (stripT p.ix) (p.ix.length - 2) else if p.kind = 2 then firsts (fanT p.ix) (p.ix.length - 2) else firsts (threeT p.ix) (p.ix.length / 3)
/-- Prim's error, and its triangles -/
def lenOk (kind : Int) (n : Nat) : Bool := if kind = 0 then n % 3 == 0 else n == 0 || decide (3 ≤ n)
def prErr (p : Pr) : Int := if 2 < p.kind then 2 else if 200 < p.ix.length then 4 else if lenOk p.kind p.ix.length = true then 0 else 40
def prList (p : Pr) : List V3 := if prErr p = 0 then prTris p else []

theorem prErr_kind {kind : Int} {ix : List Int} (h : 2 < kind) : prErr ⟨kind, ix⟩ = 2 := if_pos h
theorem prErr_many {kind : Int} {ix : List Int} (h : ¬ 2 < kind) (h2 : 200 < ix.length) : prErr ⟨kind, ix⟩ = 4 := (if_neg h).trans (if_pos h2)
theorem prErr_bad {kind : Int} {ix : List Int} (h : ¬ 2 < kind) (h2 : ¬ 200 < ix.length) (h3 : lenOk kind ix.length = false) : prErr ⟨kind, ix⟩ = 40 := (if_neg h).trans ((if_neg h2).trans (if_neg (by simp [h3])))
theorem prErr_good {kind : Int} {ix : List Int} (h : ¬ 2 < kind) (h2 : ¬ 200 < ix.length) (h3 : lenOk kind ix.length = true) : prErr ⟨kind, ix⟩ = 0 := (if_neg h).trans ((if_neg h2).trans (if_pos h3))
theorem prErr_or (p : Pr) : prErr p = 2 ∨ prErr p = 4 ∨ prErr p = 40 ∨ prErr p = 0 := by
  unfold prErr
  split
  · exact .inl rfl
  · split
    · exact .inr (.inl rfl)
    · split
      · exact .inr (.inr (.inr rfl))
      · exact .inr (.inr (.inl rfl))
theorem prList_bad {p : Pr} (h : prErr p ≠ 0) : prList p = [] := if_neg h
theorem prList_good {p : Pr} (h : prErr p = 0) : prList p = prTris p := if_pos h
theorem prTris_length (p : Pr) (h : p.kind = 0 ∨ p.kind = 1 ∨ p.kind = 2) : (prTris p).length = if p.kind = 0 then p.ix.length / 3 else p.ix.length - 2 := by
  unfold prTris
  rcases h with h | h | h <;> simp [h, firsts]
theorem prTris_le (p : Pr) : (prTris p).length ≤ p.ix.length := by
  unfold prTris
  split
  · simp [firsts]
  · split
    · simp [firsts]
    · simp [firsts]; omega

/-- What a call answers that makes a list; with something beside it. -/
def RetL {α : Type} (f : α → List Value) (w : World) (l : List α) (e : Ending) (w' : World) : Prop := ∃ ao m cap, e = .returned (.slice ao m cap) ∧ (∃ y, w' = plus w y) ∧ Lay f w' ao m l
def RetT {α : Type} (f : α → List Value) (w : World) (l : List α) (x : Value) (e : Ending) (w' : World) : Prop := ∃ ao m cap, e = .returned (.tuple #[.slice ao m cap, x]) ∧ (∃ y, w' = plus w y) ∧ Lay f w' ao m l
/-- a list in memory of its own, newer than w -/
def RetO {α : Type} (t : TypeId) (c : Nat) (f : α → List Value) (w : World) (l : List α) (e : Ending) (w' : World) : Prop := ∃ ao m cap, e = .returned (.slice ao m cap) ∧ (∃ y, w' = plus w y) ∧ Own t c f w w' ao m cap l

/-! Two lists, element by element; all elements of a list. -/
section
variable {α : Type} {eq : α → α → Bool} {d : α} {l l2 : List α} {p : α → Bool}
def sameL (eq : α → α → Bool) (d : α) (l l2 : List α) : Bool := l.length == l2.length && (List.range l.length).all (fun k => eq (nth d l k) (nth d l2 k))
theorem same_len (h : l.length ≠ l2.length) : sameL eq d l l2 = false := by simp [sameL, h]
theorem same_not {k : Nat} (hk : k < l.length) (h : eq (nth d l k) (nth d l2 k) = false) : sameL eq d l l2 = false := by
  cases h2 : sameL eq d l l2
  · rfl
  · simp only [sameL, Bool.and_eq_true, List.all_eq_true, List.mem_range] at h2
    rw [h2.2 k hk] at h
    cases h
theorem same_all (hl : l.length = l2.length) (h : ∀ k, k < l.length → eq (nth d l k) (nth d l2 k) = true) : sameL eq d l l2 = true := by
  simp only [sameL, Bool.and_eq_true, List.all_eq_true, List.mem_range, beq_iff_eq]
  exact ⟨hl, h⟩
theorem same_refl (h : ∀ a, eq a a = true) (l : List α) : sameL eq d l l = true := same_all rfl fun _ _ => h _
theorem all_not {k : Nat} (hk : k < l.length) (h : p (nth d l k) = false) : l.all p = false := by
  cases h2 : l.all p
  · rfl
  · rw [List.all_eq_true.1 h2 _ (nth_mem hk)] at h
    cases h
theorem all_yes (h : ∀ k, k < l.length → p (nth d l k) = true) : l.all p = true := by
  rw [List.all_eq_true]
  intro x hx
  obtain ⟨k, hk, rfl⟩ := List.getElem_of_mem hx
  have := h k hk
  rwa [nth_eq hk] at this
theorem all_at {k : Nat} (h : l.all p = true) (hk : k < l.length) : p (nth d l k) = true := List.all_eq_true.1 h _ (nth_mem hk)
end
def eqI (a b : Int) : Bool := decide (a = b)
def eqV (a b : V3) : Bool := decide (a.x = b.x ∧ a.y = b.y ∧ a.z = b.z)
def eq2 (a b : Int × Int) : Bool := decide (a.1 = b.1 ∧ a.2 = b.2)
theorem eqI_refl (a : Int) : eqI a a = true := by simp [eqI]
theorem eqV_refl (a : V3) : eqV a a = true := by simp [eqV]
theorem eq2_refl (a : Int × Int) : eq2 a a = true := by simp [eq2]
def sameI (l l2 : List Int) : Bool := sameL eqI 0 l l2
def sameV (l l2 : List V3) : Bool := sameL eqV zeroV l l2
def same2 (l l2 : List (Int × Int)) : Bool := sameL eq2 (0, 0) l l2
/-- from lo to hi -/
def inR (lo hi n : Int) : Bool := decide (lo ≤ n ∧ n ≤ hi)

end Go.Proofs.Ytimmbpcoagjcbaa
