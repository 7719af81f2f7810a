/- The plain mathematics of layer 5: slots, handles, what is made and killed; a handle is held until it is killed, and never again. -/
import Derived.Test.YtmmflpjfgapaaaaLay
namespace Go.Proofs.Ytmmflpjfgapaaaa
open Go.RowKit

/-- a slot -/
structure Sl where
  gen : Int
  live : Bool
def dSl : Sl := ⟨0, false⟩
def slOk (s : Sl) : Bool := decide (1 ≤ s.gen) && decide (s.gen ≤ 1073741824)
def arOk (l : List Sl) : Bool := l.all slOk && decide (l.length ≤ 128)
def freeS (s : Sl) : Bool := !s.live && decide (s.gen < 1073741824)
/-- is a handle (slot, gen) held? -/
def heldIn (l : List Sl) (s g : Int) : Bool := decide (0 ≤ s ∧ s < l.length) && ((nth dSl l s.toNat).live && decide ((nth dSl l s.toNat).gen = g))
def holds (l : List Sl) (s g : Int) : Bool := arOk l && heldIn l s g
/-- the first free slot (or how many there are) -/
def freeAt : List Sl → Nat
  | [] => 0
  | s :: r => if freeS s = true then 0 else freeAt r + 1
def mkErr (l : List Sl) : Int := if arOk l = true then (if freeAt l < l.length then 0 else if l.length = 128 then 9 else 0) else 8
def mkList (l : List Sl) : List Sl := if freeAt l < l.length then l.set (freeAt l) ⟨(nth dSl l (freeAt l)).gen + 1, true⟩ else l ++ [⟨1, true⟩]
def mkSlot (l : List Sl) : Int := freeAt l
def mkGen (l : List Sl) : Int := if freeAt l < l.length then (nth dSl l (freeAt l)).gen + 1 else 1
def killErr (l : List Sl) (s g : Int) : Int := if arOk l = true then (if heldIn l s g = true then 0 else 50) else 8
def killList (l : List Sl) (s : Int) : List Sl := l.set s.toNat ⟨(nth dSl l s.toNat).gen, false⟩

theorem nth_set' {α : Type} {d x : α} {l : List α} {k j : Nat} (hk : k < l.length) : nth d (l.set k x) j = if j = k then x else nth d l j := by
  unfold nth
  by_cases e : j = k
  · subst e
    simp [hk]
  · have e' : ¬ k = j := fun h => e h.symm
    simp [e, e']

/-! The first free slot -/
theorem freeAt_le : ∀ l : List Sl, freeAt l ≤ l.length
  | [] => Nat.le_refl _
  | s :: r => by
    have := freeAt_le r
    unfold freeAt
    split
    · exact Nat.zero_le _
    · rw [List.length_cons]; omega
theorem freeAt_before : ∀ {l : List Sl} {k : Nat}, k < freeAt l → freeS (nth dSl l k) = false
  | [], k, hk => by simp [freeAt] at hk
  | s :: r, k, hk => by
    unfold freeAt at hk
    split at hk
    · omega
    · rename_i h
      match k with
      | 0 => simpa [nth] using h
      | k + 1 => exact freeAt_before (l := r) (k := k) (by omega)
theorem freeAt_here : ∀ {l : List Sl}, freeAt l < l.length → freeS (nth dSl l (freeAt l)) = true
  | [], h => by simp at h
  | s :: r, h => by
    unfold freeAt at *
    split at h
    · rename_i h1
      rw [if_pos h1]
      exact h1
    · rename_i h1
      rw [if_neg h1]
      exact freeAt_here (l := r) (by rw [List.length_cons] at h; omega)
theorem freeAt_is {l : List Sl} {k : Nat} (hk : k ≤ l.length) (h1 : ∀ j, j < k → freeS (nth dSl l j) = false) (h2 : k < l.length → freeS (nth dSl l k) = true) : freeAt l = k := by
  rcases Nat.lt_trichotomy (freeAt l) k with h | h | h
  · have := h1 _ h
    rw [freeAt_here (by omega)] at this
    cases this
  · exact h
  · have := freeAt_before h
    rw [h2 (Nat.lt_of_lt_of_le h (freeAt_le l))] at this
    cases this

/-! What may be stays so -/
theorem arOk_at {l : List Sl} (h : arOk l = true) {k : Nat} (hk : k < l.length) : 1 ≤ (nth dSl l k).gen ∧ (nth dSl l k).gen ≤ 1073741824 := by
  simp only [arOk, Bool.and_eq_true, List.all_eq_true] at h
  have := h.1 _ (nth_mem (d := dSl) hk)
  simpa [slOk] using this
theorem arOk_len {l : List Sl} (h : arOk l = true) : l.length ≤ 128 := by
  simp only [arOk, Bool.and_eq_true, decide_eq_true_eq] at h
  exact h.2
theorem arOk_mk {l : List Sl} (hl : l.length ≤ 128) (h : ∀ k, k < l.length → 1 ≤ (nth dSl l k).gen ∧ (nth dSl l k).gen ≤ 1073741824) : arOk l = true := by
  simp only [arOk, Bool.and_eq_true, List.all_eq_true, decide_eq_true_eq]
  refine ⟨fun s hs => ?_, hl⟩
  obtain ⟨k, hk, rfl⟩ := List.getElem_of_mem hs
  have := h k hk
  rw [nth_eq hk] at this
  simpa [slOk] using this
theorem free_gen {s : Sl} (h : freeS s = true) : s.live = false ∧ s.gen < 1073741824 := by
  simpa [freeS] using h
theorem mk_ok {l : List Sl} (h : mkErr l = 0) : arOk l = true ∧ (freeAt l < l.length ∨ l.length < 128) := by
  unfold mkErr at h
  split at h
  · rename_i h1
    refine ⟨h1, ?_⟩
    split at h
    · rename_i h2; exact .inl h2
    · split at h
      · cases h
      · rename_i h3
        have := arOk_len h1
        exact .inr (by omega)
  · cases h
theorem mkList_ok {l : List Sl} (h : mkErr l = 0) : arOk (mkList l) = true := by
  obtain ⟨h1, h2⟩ := mk_ok h
  have hlen := arOk_len h1
  unfold mkList
  split
  · rename_i hf
    have hg := free_gen (freeAt_here hf)
    have ha := arOk_at h1 hf
    refine arOk_mk (by rw [List.length_set]; exact hlen) fun k hk => ?_
    rw [List.length_set] at hk
    rw [nth_set' hf]
    split
    · simp only; omega
    · exact arOk_at h1 hk
  · rename_i hf
    refine arOk_mk (by rw [List.length_append]; simp; omega) fun k hk => ?_
    rw [List.length_append] at hk
    simp only [List.length_cons, List.length_nil] at hk
    by_cases hkl : k < l.length
    · rw [nth_append_left hkl]
      exact arOk_at h1 hkl
    · rw [nth_append_right (by omega), show k - l.length = 0 by omega]
      exact ⟨by decide, by decide⟩
theorem killList_ok {l : List Sl} {s : Int} (h : arOk l = true) (hs : s.toNat < l.length) : arOk (killList l s) = true := by
  refine arOk_mk (by unfold killList; rw [List.length_set]; exact arOk_len h) fun k hk => ?_
  unfold killList at *
  rw [List.length_set] at hk
  rw [nth_set' hs]
  split
  · exact arOk_at h hs
  · exact arOk_at h hk
theorem held_spec {l : List Sl} {s g : Int} : heldIn l s g = true ↔ (0 ≤ s ∧ s < l.length) ∧ (nth dSl l s.toNat).live = true ∧ (nth dSl l s.toNat).gen = g := by
  simp [heldIn, Bool.and_eq_true]

/-! The handles that were given: whether each is held is what the list 'live' says -/
structure Keeps (l : List Sl) (gv : List (Int × Int)) (lv : List Bool) : Prop where
  len : gv.length = lv.length
  rng : ∀ k, k < gv.length → 0 ≤ (nth (0, 0) gv k).1 ∧ (nth (0, 0) gv k).1 < l.length ∧ (nth (0, 0) gv k).2 ≤ (nth dSl l (nth (0, 0) gv k).1.toNat).gen
  is : ∀ k, k < gv.length → heldIn l (nth (0, 0) gv k).1 (nth (0, 0) gv k).2 = nth false lv k
  two : ∀ j k, j < gv.length → k < gv.length → nth (0, 0) gv j = nth (0, 0) gv k → j = k
theorem keeps_nil (l : List Sl) : Keeps l [] [] := ⟨rfl, fun k hk => by simp at hk, fun k hk => by simp at hk, fun j k hj => by simp at hj⟩

theorem mk_new {l : List Sl} {gv : List (Int × Int)} {lv : List Bool} (hK : Keeps l gv lv) {k : Nat} (hk : k < gv.length) : nth (0, 0) gv k ≠ (mkSlot l, mkGen l) := by
  intro e
  obtain ⟨h1, h2, h3⟩ := hK.rng k hk
  rw [e] at h1 h2 h3
  unfold mkSlot mkGen at *
  simp only at h1 h2 h3
  rw [if_pos (by omega)] at h3
  rw [Int.toNat_natCast] at h3
  omega
theorem mk_not_held (l : List Sl) : heldIn l (mkSlot l) (mkGen l) = false := by
  cases h : heldIn l (mkSlot l) (mkGen l) with
  | false => rfl
  | true =>
    rw [held_spec] at h
    unfold mkSlot at h
    rw [Int.toNat_natCast] at h
    have hf : freeAt l < l.length := by omega
    rw [(free_gen (freeAt_here hf)).1] at h
    cases h.2.1
theorem mkList_length (l : List Sl) : l.length ≤ (mkList l).length := by
  unfold mkList
  split
  · rw [List.length_set]; exact Nat.le_refl _
  · rw [List.length_append]; omega
theorem mk_held (l : List Sl) : heldIn (mkList l) (mkSlot l) (mkGen l) = true := by
  rw [held_spec]
  unfold mkList mkSlot mkGen
  rw [Int.toNat_natCast]
  split
  · rename_i hf
    rw [List.length_set, nth_set' hf, if_pos rfl]
    exact ⟨by omega, rfl, rfl⟩
  · rename_i hf
    have := freeAt_le l
    have e : freeAt l = l.length := by omega
    rw [List.length_append, e, nth_append_right (Nat.le_refl _), Nat.sub_self]
    exact ⟨by simp only [List.length_cons, List.length_nil]; omega, rfl, rfl⟩
/-- making leaves all other handles as they are -/
theorem mk_other {l : List Sl} {s g : Int} (h0 : 0 ≤ s) (h1 : s < l.length) (hg : g ≤ (nth dSl l s.toNat).gen) : heldIn (mkList l) s g = heldIn l s g ∧ g ≤ (nth dSl (mkList l) s.toNat).gen := by
  have hs : s.toNat < l.length := by omega
  unfold mkList
  split
  · rename_i hf
    rw [nth_set' hf]
    by_cases e : s.toNat = freeAt l
    · rw [if_pos e]
      have hfr := free_gen (freeAt_here hf)
      refine ⟨?_, by rw [e] at hg; simp only; omega⟩
      have a1 : heldIn l s g = false := by
        cases h : heldIn l s g with
        | false => rfl
        | true => rw [held_spec, e, hfr.1] at h; cases h.2.1
      rw [a1]
      cases h : heldIn (l.set (freeAt l) ⟨(nth dSl l (freeAt l)).gen + 1, true⟩) s g with
      | false => rfl
      | true =>
        rw [held_spec, nth_set' hf, if_pos e] at h
        have := h.2.2
        rw [e] at hg
        simp only at this
        omega
    · rw [if_neg e]
      exact ⟨by unfold heldIn; rw [List.length_set, nth_set' hf, if_neg e], hg⟩
  · rw [nth_append_left hs]
    refine ⟨?_, hg⟩
    unfold heldIn
    rw [nth_append_left hs, List.length_append]
    have : (0 ≤ s ∧ s < ((l.length + [(⟨1, true⟩ : Sl)].length : Nat) : Int)) ↔ (0 ≤ s ∧ s < (l.length : Int)) := by
      constructor
      · intro _; exact ⟨h0, h1⟩
      · intro _; simp only [List.length_cons, List.length_nil]; omega
    simp only [this]
theorem keeps_make {l : List Sl} {gv : List (Int × Int)} {lv : List Bool} (hK : Keeps l gv lv) : Keeps (mkList l) (gv ++ [(mkSlot l, mkGen l)]) (lv ++ [true]) := by
  have hmh := mk_held l
  have hml := mkList_length l
  have hpt : ∀ k, k < (gv ++ [(mkSlot l, mkGen l)]).length → k < gv.length ∨ k = gv.length := by
    intro k hk
    rw [List.length_append] at hk
    simp only [List.length_cons, List.length_nil] at hk
    omega
  have hlast : nth (0, 0) (gv ++ [(mkSlot l, mkGen l)]) gv.length = (mkSlot l, mkGen l) := by
    rw [nth_append_right (Nat.le_refl _), Nat.sub_self]
    rfl
  refine ⟨by rw [List.length_append, List.length_append, hK.len]; rfl, fun k hk => ?_, fun k hk => ?_, fun j k hj hk e => ?_⟩
  · rcases hpt k hk with h | rfl
    · rw [nth_append_left h]
      obtain ⟨h1, h2, h3⟩ := hK.rng k h
      exact ⟨h1, by omega, (mk_other h1 h2 h3).2⟩
    · rw [hlast]
      rw [held_spec] at hmh
      exact ⟨hmh.1.1, hmh.1.2, by rw [hmh.2.2]; exact Int.le_refl _⟩
  · rcases hpt k hk with h | rfl
    · obtain ⟨h1, h2, h3⟩ := hK.rng k h
      rw [nth_append_left h, nth_append_left (by rw [← hK.len]; exact h), (mk_other h1 h2 h3).1]
      exact hK.is k h
    · rw [hlast, hmh, hK.len, nth_append_right (Nat.le_refl _), Nat.sub_self]
      rfl
  · rcases hpt j hj with h1 | rfl
    · rcases hpt k hk with h2 | rfl
      · rw [nth_append_left h1, nth_append_left h2] at e
        exact hK.two j k h1 h2 e
      · rw [nth_append_left h1, hlast] at e
        exact absurd e (mk_new hK h1)
    · rcases hpt k hk with h2 | rfl
      · rw [hlast, nth_append_left h2] at e
        exact absurd e.symm (mk_new hK h2)
      · rfl
/-- what is killed is not held, all others are as they were -/
theorem keeps_kill {l : List Sl} {gv : List (Int × Int)} {lv : List Bool} (hK : Keeps l gv lv) {q : Nat} (hq : q < gv.length) (hh : heldIn l (nth (0, 0) gv q).1 (nth (0, 0) gv q).2 = true) :
    Keeps (killList l (nth (0, 0) gv q).1) gv (lv.set q false) := by
  obtain ⟨⟨s0, s1⟩, s2, s3⟩ := held_spec.1 hh
  have hs : (nth (0, 0) gv q).1.toNat < l.length := by omega
  refine ⟨by rw [List.length_set]; exact hK.len, fun k hk => ?_, fun k hk => ?_, hK.two⟩
  · obtain ⟨h1, h2, h3⟩ := hK.rng k hk
    unfold killList
    rw [List.length_set, nth_set' hs]
    refine ⟨h1, h2, ?_⟩
    split
    · rename_i e; rw [e] at h3; exact h3
    · exact h3
  · have hki := hK.is k hk
    rw [nth_set' (by rw [← hK.len]; exact hq)]
    by_cases ek : k = q
    · subst ek
      rw [if_pos rfl]
      cases h : heldIn (killList l (nth (0, 0) gv k).1) (nth (0, 0) gv k).1 (nth (0, 0) gv k).2 with
      | false => rfl
      | true =>
        rw [held_spec] at h
        unfold killList at h
        rw [nth_set' hs, if_pos rfl] at h
        cases h.2.1
    · rw [if_neg ek, ← hki]
      unfold killList heldIn
      rw [List.length_set, nth_set' hs]
      by_cases e : (nth (0, 0) gv k).1.toNat = (nth (0, 0) gv q).1.toNat
      · rw [if_pos e]
        obtain ⟨h1, h2, _⟩ := hK.rng k hk
        have hne : (nth dSl l (nth (0, 0) gv k).1.toNat).gen ≠ (nth (0, 0) gv k).2 := by
          intro eg
          rw [e, s3] at eg
          apply ek
          apply hK.two k q hk hq
          apply Prod.ext
          · have := Int.toNat_of_nonneg h1
            have := Int.toNat_of_nonneg s0
            omega
          · exact eg.symm
        simp [hne]
      · rw [if_neg e]
/-- what is not held is killed in vain -/
theorem keeps_stale {l : List Sl} {gv : List (Int × Int)} {lv : List Bool} (hK : Keeps l gv lv) {q : Nat} (hq : q < gv.length) (hh : heldIn l (nth (0, 0) gv q).1 (nth (0, 0) gv q).2 = false) : Keeps l gv (lv.set q false) := by
  refine ⟨by rw [List.length_set]; exact hK.len, hK.rng, fun k hk => ?_, hK.two⟩
  rw [nth_set' (by rw [← hK.len]; exact hq)]
  split
  · rename_i e; rw [e]; exact hh
  · exact hK.is k hk
end Go.Proofs.Ytmmflpjfgapaaaa
