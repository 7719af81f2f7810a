/- What slices.Clone of primitives, and dioramaref04.Great, give. -/
import Derived.Test.YtkiahgkfgcjkgaaMesh5
import Derived.Test.YtkiahgkfgcjkgaaMesh13
namespace Go.Proofs.Ytkiahgkfgcjkgaa
open Go.RowKit Go.ChangeShapes Go.WideShapes Go.ChangeAt
set_option linter.unusedSimpArgs false
set_option linter.unusedVariables false
attribute [local go_sem] plus_size plus_drew dn_set dn_alloc dn_plus plus_dn cell_plus frozen_plus set_plus cell_alloc frozen_alloc set_alloc

attribute [local go_sem] eqarr_34 nearr_34 larr_34

attribute [local go_sem] eqarr_50 nearr_50 larr_50

attribute [local go_sem] isnil_26

attribute [local go_sem] isnil_29

attribute [local go_sem] isnil_30

attribute [local go_sem] isnil_31

theorem cloneP (ao : Option Addr) (n cap : Nat) (l : List PH) (w : World) (hl : Lay fP w ao n l) (hn : n ≤ 10000) (hz : ao = none → cap = 0) :
    Calls Try.prog 32 #[.slice ao n cap] w fun e w' => RetO 28 2 fP w l e w' := by
  cases ao with
  | none =>
    obtain rfl : n = 0 := by rcases hl.at0 with h | ⟨g, off, h, _⟩; exact h; cases h
    obtain rfl := hz rfl
    obtain rfl := hl.zero
    go_enter Try.func32, Try.ntmps32
    go_wp2
    go_ret
    exact ⟨none, 0, 0, rfl, (by with_reducible repeat (first | exact ex_refl _ | exact ex_more | apply ex_alloc | apply ex_plus | apply ex_drew | apply ex_drewN)), own_nil⟩
  | some a =>
    go_enter Try.func32, Try.ntmps32
    go_wp2_with (at_builtin; (refine wpList_append_lay (T := w) (l := []) rfl _ _ rfl kinP fP_c fP_1 rfl (by with_reducible repeat (first | exact ex_refl _ | exact ex_more | apply ex_alloc | apply ex_plus | apply ex_drew | apply ex_drewN)) ⟨rfl, World.ownsRow_made w _ 0 (Nat.le_refl _) (by decide) rfl⟩ rfl (hl.ex (by with_reducible repeat (first | exact ex_refl _ | exact ex_more | apply ex_alloc | apply ex_plus | apply ex_drew | apply ex_drewN))) (by omega) (by decide) ?_; intro ao' cap' y' hown'))
    go_ret
    rw [Nat.zero_add, List.nil_append] at hown'
    exact ⟨ao', _, cap', rfl, (by with_reducible repeat (first | exact ex_refl _ | exact ex_more | apply ex_alloc | apply ex_plus | apply ex_drew | apply ex_drewN)), hown'⟩

def greatB (vn un pn : Nat) (hs : List PH) : Bool := decide (1000 < vn) || decide (1000 < un) || decide (100 < pn) || hs.any (fun h => decide (1000 < h.n))
theorem great_no {vn un pn : Nat} {hs : List PH} (h : greatB vn un pn hs = false) : vn ≤ 1000 ∧ un ≤ 1000 ∧ pn ≤ 100 ∧ Few hs := by
  simp only [greatB, Bool.or_eq_false_iff, decide_eq_false_iff_not] at h
  obtain ⟨⟨⟨h1, h2⟩, h3⟩, h4⟩ := h
  refine ⟨by omega, by omega, by omega, fun k hk => ?_⟩
  have h5 := List.any_eq_false.1 h4 _ (nth_mem (d := dPH) hk)
  simp only [decide_eq_true_eq] at h5
  omega

set_option maxHeartbeats 2000000 in
theorem great_calls (va ua pa : Option Addr) (vn vc un uc pn pc : Nat) (hs : List PH) (m : Ms) (w : World) (hm : MeshAt w ⟨va, vn, vc, ua, un, uc, pa, pn, pc⟩ hs m) :
    Calls Try.prog 15 #[.agg #[.slice va vn vc, .slice ua un uc, .slice pa pn pc]] w fun e w' => e = .returned (.bool (greatB vn un pn hs)) ∧ Below w.heap.size w w' := by
  have hpl : Lay fP w pa pn hs := hm.pl
  have hpp : PrimsAt w hs m.ps := hm.pp
  have l1 := hpl.len
  have hz := hm.ple
  have hz2 := hm.vle
  have hz3 := hm.ule
  simp only at hz hz2 hz3
  by_cases h1 : 1000 < vn
  · rw [show greatB vn un pn hs = true by simp [greatB, h1]]
    have i1 : (1000 : Int) < (vn : Int) := by omega
    go_enter Try.func15, Try.ntmps15
    go_wp2
    go_ret
    exact ⟨rfl, by with_reducible repeat (first | exact Below.refl _ _ | apply ba | apply bp | apply bd | apply bn)⟩
  have i1 : ¬ (1000 : Int) < (vn : Int) := by omega
  by_cases h2 : 1000 < un
  · rw [show greatB vn un pn hs = true by simp [greatB, h2]]
    have i2 : (1000 : Int) < (un : Int) := by omega
    go_enter Try.func15, Try.ntmps15
    go_wp2
    go_ret
    exact ⟨rfl, by with_reducible repeat (first | exact Below.refl _ _ | apply ba | apply bp | apply bd | apply bn)⟩
  have i2 : ¬ (1000 : Int) < (un : Int) := by omega
  by_cases h3 : 100 < pn
  · rw [show greatB vn un pn hs = true by simp [greatB, h3]]
    have i3 : (100 : Int) < (pn : Int) := by omega
    go_enter Try.func15, Try.ntmps15
    go_wp2
    go_ret
    exact ⟨rfl, by with_reducible repeat (first | exact Below.refl _ _ | apply ba | apply bp | apply bd | apply bn)⟩
  have i3 : ¬ (100 : Int) < (pn : Int) := by omega
  have hgr : greatB vn un pn hs = hs.any (fun h => decide (1000 < h.n)) := by simp [greatB, h1, h2, h3]
  rw [hgr]
  obtain ⟨ps, hps⟩ : ∃ ps, m.ps = ps := ⟨_, rfl⟩
  rw [hps] at hpp
  go_enter Try.func15, Try.ntmps15
  go_wp2
  go_loopw [3] (fun i wr => ∃ k : Nat, k ≤ pn ∧ i = .int .i64 k ∧ (∀ j, j < k → decide (1000 < (nth dPH hs j).n) = false) ∧ ∃ x, wr = plus (w.alloc (.cells #[.slice va vn vc, .slice ua un uc, .slice pa pn pc] 33)) x) (fun i _ => pn - (intOf i).toNat)
  case atStart => exact ⟨0, Nat.zero_le _, rfl, fun j hj => by omega, (by with_reducible repeat (first | exact ex_refl _ | exact ex_more | apply ex_alloc | apply ex_plus | apply ex_drew | apply ex_drewN))⟩
  case round =>
    obtain ⟨k, hk, rfl, hs1, x, rfl⟩ := hrel
    by_cases hkl : k < pn
    · obtain ⟨g, off, rfl, hgl, hcell⟩ := hpl.some (by omega)
      obtain ⟨d0, d1⟩ := cellP hpl.len hcell (k := k) hkl
      have ik : (k : Int) < (pn : Int) := by omega
      by_cases h4 : 1000 < (nth dPH hs k).n
      · have i4 : (1000 : Int) < ((nth dPH hs k).n : Int) := by omega
        go_wp2
        go_ret
        exact ⟨by rw [show hs.any (fun h => decide (1000 < h.n)) = true from List.any_eq_true.2 ⟨_, nth_mem (d := dPH) (k := k) (by omega), decide_eq_true h4⟩]; rfl, by with_reducible repeat (first | exact Below.refl _ _ | apply ba | apply bp | apply bd | apply bn)⟩
      · have i4 : ¬ (1000 : Int) < ((nth dPH hs k).n : Int) := by omega
        go_wp2
        go_roundw
        case rel => exact ⟨k + 1, by omega, by go_num, upto_succ hs1 (decide_eq_false h4), (by with_reducible repeat (first | exact ex_refl _ | exact ex_more | apply ex_alloc | apply ex_plus | apply ex_drew | apply ex_drewN))⟩
        case measure => simp [intOf]; omega
    · have ik : ¬ (k : Int) < (pn : Int) := by omega
      go_wp2
      go_ret
      exact ⟨by rw [show hs.any (fun h => decide (1000 < h.n)) = false from List.any_eq_false.2 (fun h hh => by (obtain ⟨q, hq, rfl⟩ := List.getElem_of_mem hh); (have h5 := hs1 q (by omega)); rw [nth_eq hq] at h5; rw [h5]; decide)]; rfl, by with_reducible repeat (first | exact Below.refl _ _ | apply ba | apply bp | apply bd | apply bn)⟩

end Go.Proofs.Ytkiahgkfgcjkgaa
