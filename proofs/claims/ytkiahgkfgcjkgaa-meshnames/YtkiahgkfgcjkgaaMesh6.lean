/- What dioramalaw04.alive gives. -/
import Derived.Test.YtkiahgkfgcjkgaaMesh3
import Derived.Test.YtkiahgkfgcjkgaaMeshMath2
namespace Go.Proofs.Ytkiahgkfgcjkgaa
open Go.RowKit Go.ChangeShapes Go.WideShapes Go.ChangeAt
set_option linter.unusedSimpArgs false
set_option linter.unusedVariables false
attribute [local go_sem] plus_size plus_drew dn_set dn_alloc dn_plus plus_dn cell_plus frozen_plus set_plus cell_alloc frozen_alloc set_alloc

attribute [local go_sem] eqarr_34 nearr_34 larr_34

attribute [local go_sem] eqarr_50 nearr_50 larr_50

attribute [local go_sem] isnil_26

attribute [local go_sem] isnil_29

attribute [local go_sem] isnil_30

attribute [local go_sem] isnil_31

theorem alive_calls (w : World) : Calls Try.prog 10 #[] w fun e w' => e = .returned (.bool true) ∧ Below w.heap.size w w' := by
  go_enter Try.func10, Try.ntmps10
  go_wp2_with (go_at_call 9; refine (mprim_calls 1 _ 4 4 [4, 5, 6, 7] _ (by decide) ⟨rfl, .inr ⟨_, 0, rfl, by simp [go_sem], fun jj u hu => by match jj, hu with | 0, hu => (simp [fI] at hu; subst hu; simp [go_sem, ↓IntWalk.iteOmega]) | 1, hu => (simp [fI] at hu; subst hu; simp [go_sem, ↓IntWalk.iteOmega]) | 2, hu => (simp [fI] at hu; subst hu; simp [go_sem, ↓IntWalk.iteOmega]) | 3, hu => (simp [fI] at hu; subst hu; simp [go_sem, ↓IntWalk.iteOmega]) | jj + 4, hu => simp [fI] at hu⟩⟩ (by decide)).mono ?_; rintro e w1 ⟨ao1, m1, cap1, rfl, hw1, hl1⟩; obtain rfl : m1 = 2 := hl1.len.symm; obtain ⟨g1, o1, rfl, hg1, hc1⟩ := hl1.some (by decide); have c0 := hc1 0 _ rfl; have c1 := hc1 1 _ rfl; have c2 := hc1 2 _ rfl; have c3 := hc1 3 _ rfl; have c4 := hc1 4 _ rfl; have c5 := hc1 5 _ rfl; rw [show prErr ⟨1, [4, 5, 6, 7]⟩ = 0 from rfl]; rw [Nat.add_zero] at c0)
  go_ret
  obtain ⟨y1, rfl⟩ := hw1
  exact ⟨rfl, by with_reducible repeat (first | exact Below.refl _ _ | apply ba | apply bp | apply bd | apply bn)⟩

end Go.Proofs.Ytkiahgkfgcjkgaa
