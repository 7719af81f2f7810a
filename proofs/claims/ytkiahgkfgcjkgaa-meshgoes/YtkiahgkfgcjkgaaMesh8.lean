/- What mesh.cornersMayBe and placesMayBe give. -/
import Derived.Test.YtkiahgkfgcjkgaaMesh4
import Derived.Test.YtkiahgkfgcjkgaaMeshMath3
namespace Go.Proofs.Ytkiahgkfgcjkgaa
open Go.RowKit Go.ChangeShapes Go.WideShapes Go.ChangeAt
set_option linter.unusedSimpArgs false
set_option linter.unusedVariables false
attribute [local go_sem] plus_size plus_drew dn_set dn_alloc dn_plus plus_dn cell_plus frozen_plus set_plus cell_alloc frozen_alloc set_alloc

attribute [local go_sem] eqarr_34 nearr_34 larr_34

attribute [local go_sem] eqarr_50 nearr_50 larr_50

attribute [local go_sem] isnil_26

attribute [local go_sem] isnil_29

attribute [local go_sem] isnil_30

attribute [local go_sem] isnil_31

set_option maxHeartbeats 2000000 in
theorem corners_calls (ao : Option Addr) (n cap : Nat) (l : List V3) (w : World) (hl : Lay fV w ao n l) (hn : n ≤ 10000) :
    Calls Try.prog 26 #[.slice ao n cap] w fun e w' => e = .returned (.bool (l.all vOk)) ∧ Below w.heap.size w w' := by
  have hlen := hl.len
  go_enter Try.func26, Try.ntmps26
  go_wp2
  go_loopw [7] (fun i wr => ∃ k : Nat, k ≤ n ∧ i = .int .i64 k ∧ (∀ j, j < k → vOk (nth zeroV l j) = true) ∧ ∃ x, wr = plus w x) (fun i _ => n - (intOf i).toNat)
  case atStart => exact ⟨0, Nat.zero_le _, rfl, fun j hj => by omega, (by with_reducible repeat (first | exact ex_refl _ | exact ex_more | apply ex_alloc | apply ex_plus | apply ex_drew | apply ex_drewN))⟩
  case round =>
    obtain ⟨k, hk, rfl, hs, x, rfl⟩ := hrel
    by_cases hkl : k < n
    · obtain ⟨g, off, rfl, hg, hcell⟩ := hl.some (by omega)
      obtain ⟨c0, c1, c2⟩ := cellV hlen hcell hkl
      have ik : (k : Int) < (n : Int) := by omega
      cases ho : vOk (nth zeroV l k)
      · have ho' : [(nth zeroV l k).x, (nth zeroV l k).y, (nth zeroV l k).z].all (inR (-1024) 1024) = false := ho
        go_wp2_with (go_at_call 42; refine (plus_post (within_calls (-1024) 1024 _ 3 _ [(nth zeroV l k).x, (nth zeroV l k).y, (nth zeroV l k).z] _ ⟨rfl, .inr ⟨_, 0, rfl, by simp [go_sem]; try omega, fun jj u hu => by match jj, hu with | 0, hu => (simp [fI] at hu; subst hu; simp [go_sem, ↓IntWalk.iteOmega]) | 1, hu => (simp [fI] at hu; subst hu; simp [go_sem, ↓IntWalk.iteOmega]) | 2, hu => (simp [fI] at hu; subst hu; simp [go_sem, ↓IntWalk.iteOmega]) | jj + 3, hu => simp [fI] at hu⟩⟩ (by decide))).mono ?_; rintro e w' ⟨rfl, nx, rfl⟩; rw [ho'])
        go_ret
        exact ⟨by rw [all_not (d := zeroV) (k := k) (by omega) ho]; rfl, by with_reducible repeat (first | exact Below.refl _ _ | apply ba | apply bp | apply bd | apply bn)⟩
      · have ho' : [(nth zeroV l k).x, (nth zeroV l k).y, (nth zeroV l k).z].all (inR (-1024) 1024) = true := ho
        go_wp2_with (go_at_call 42; refine (plus_post (within_calls (-1024) 1024 _ 3 _ [(nth zeroV l k).x, (nth zeroV l k).y, (nth zeroV l k).z] _ ⟨rfl, .inr ⟨_, 0, rfl, by simp [go_sem]; try omega, fun jj u hu => by match jj, hu with | 0, hu => (simp [fI] at hu; subst hu; simp [go_sem, ↓IntWalk.iteOmega]) | 1, hu => (simp [fI] at hu; subst hu; simp [go_sem, ↓IntWalk.iteOmega]) | 2, hu => (simp [fI] at hu; subst hu; simp [go_sem, ↓IntWalk.iteOmega]) | jj + 3, hu => simp [fI] at hu⟩⟩ (by decide))).mono ?_; rintro e w' ⟨rfl, nx, rfl⟩; rw [ho'])
        go_roundw
        case rel => exact ⟨k + 1, by omega, by go_num, upto_succ hs ho, (by with_reducible repeat (first | exact ex_refl _ | exact ex_more | apply ex_alloc | apply ex_plus | apply ex_drew | apply ex_drewN))⟩
        case measure => simp [intOf]; omega
    · have ik : ¬ (k : Int) < (n : Int) := by omega
      go_wp2
      go_ret
      exact ⟨by rw [all_yes (d := zeroV) (fun j hj => hs j (by omega))]; rfl, by with_reducible repeat (first | exact Below.refl _ _ | apply ba | apply bp | apply bd | apply bn)⟩

set_option maxHeartbeats 2000000 in
theorem places_calls (ao : Option Addr) (n cap : Nat) (l : List (Int × Int)) (w : World) (hl : Lay f2 w ao n l) (hn : n ≤ 10000) :
    Calls Try.prog 27 #[.slice ao n cap] w fun e w' => e = .returned (.bool (l.all uOk)) ∧ Below w.heap.size w w' := by
  have hlen := hl.len
  go_enter Try.func27, Try.ntmps27
  go_wp2
  go_loopw [7] (fun i wr => ∃ k : Nat, k ≤ n ∧ i = .int .i64 k ∧ (∀ j, j < k → uOk (nth (0, 0) l j) = true) ∧ ∃ x, wr = plus w x) (fun i _ => n - (intOf i).toNat)
  case atStart => exact ⟨0, Nat.zero_le _, rfl, fun j hj => by omega, (by with_reducible repeat (first | exact ex_refl _ | exact ex_more | apply ex_alloc | apply ex_plus | apply ex_drew | apply ex_drewN))⟩
  case round =>
    obtain ⟨k, hk, rfl, hs, x, rfl⟩ := hrel
    by_cases hkl : k < n
    · obtain ⟨g, off, rfl, hg, hcell⟩ := hl.some (by omega)
      obtain ⟨c0, c1⟩ := cell2 hlen hcell hkl
      have ik : (k : Int) < (n : Int) := by omega
      cases ho : uOk (nth (0, 0) l k)
      · have ho' : [(nth (0, 0) l k).1, (nth (0, 0) l k).2].all (inR (0) 255) = false := ho
        go_wp2_with (go_at_call 42; refine (plus_post (within_calls (0) 255 _ 2 _ [(nth (0, 0) l k).1, (nth (0, 0) l k).2] _ ⟨rfl, .inr ⟨_, 0, rfl, by simp [go_sem]; try omega, fun jj u hu => by match jj, hu with | 0, hu => (simp [fI] at hu; subst hu; simp [go_sem, ↓IntWalk.iteOmega]) | 1, hu => (simp [fI] at hu; subst hu; simp [go_sem, ↓IntWalk.iteOmega]) | jj + 2, hu => simp [fI] at hu⟩⟩ (by decide))).mono ?_; rintro e w' ⟨rfl, nx, rfl⟩; rw [ho'])
        go_ret
        exact ⟨by rw [all_not (d := (0, 0)) (k := k) (by omega) ho]; rfl, by with_reducible repeat (first | exact Below.refl _ _ | apply ba | apply bp | apply bd | apply bn)⟩
      · have ho' : [(nth (0, 0) l k).1, (nth (0, 0) l k).2].all (inR (0) 255) = true := ho
        go_wp2_with (go_at_call 42; refine (plus_post (within_calls (0) 255 _ 2 _ [(nth (0, 0) l k).1, (nth (0, 0) l k).2] _ ⟨rfl, .inr ⟨_, 0, rfl, by simp [go_sem]; try omega, fun jj u hu => by match jj, hu with | 0, hu => (simp [fI] at hu; subst hu; simp [go_sem, ↓IntWalk.iteOmega]) | 1, hu => (simp [fI] at hu; subst hu; simp [go_sem, ↓IntWalk.iteOmega]) | jj + 2, hu => simp [fI] at hu⟩⟩ (by decide))).mono ?_; rintro e w' ⟨rfl, nx, rfl⟩; rw [ho'])
        go_roundw
        case rel => exact ⟨k + 1, by omega, by go_num, upto_succ hs ho, (by with_reducible repeat (first | exact ex_refl _ | exact ex_more | apply ex_alloc | apply ex_plus | apply ex_drew | apply ex_drewN))⟩
        case measure => simp [intOf]; omega
    · have ik : ¬ (k : Int) < (n : Int) := by omega
      go_wp2
      go_ret
      exact ⟨by rw [all_yes (d := (0, 0)) (fun j hj => hs j (by omega))]; rfl, by with_reducible repeat (first | exact Below.refl _ _ | apply ba | apply bp | apply bd | apply bn)⟩

end Go.Proofs.Ytkiahgkfgcjkgaa
