/- What slices.Clone gives: a list in new memory. -/
import Derived.Test.YtkiahgkfgcjkgaaMesh1
namespace Go.Proofs.Ytkiahgkfgcjkgaa
open Go.RowKit Go.ChangeShapes Go.WideShapes Go.ChangeAt
set_option linter.unusedSimpArgs false
set_option linter.unusedVariables false
attribute [local go_sem] plus_size plus_drew dn_set dn_alloc dn_plus plus_dn cell_plus frozen_plus set_plus cell_alloc frozen_alloc set_alloc

attribute [local go_sem] eqarr_34 nearr_34 larr_34

attribute [local go_sem] eqarr_50 nearr_50 larr_50

attribute [local go_sem] isnil_26

attribute [local go_sem] isnil_29

attribute [local go_sem] isnil_30

attribute [local go_sem] isnil_31

theorem cloneI (ao : Option Addr) (n cap : Nat) (l : List Int) (w : World) (hl : Lay fI w ao n l) (hn : n ≤ 10000) (hz : ao = none → cap = 0) :
    Calls Try.prog 33 #[.slice ao n cap] w fun e w' => RetO 3 1 fI w l e w' := by
  cases ao with
  | none =>
    obtain rfl : n = 0 := by rcases hl.at0 with h | ⟨g, off, h, _⟩; exact h; cases h
    obtain rfl := hz rfl
    obtain rfl := hl.zero
    go_enter Try.func33, Try.ntmps33
    go_wp2
    go_ret
    exact ⟨none, 0, 0, rfl, (by with_reducible repeat (first | exact ex_refl _ | exact ex_more | apply ex_alloc | apply ex_plus | apply ex_drew | apply ex_drewN)), own_nil⟩
  | some a =>
    go_enter Try.func33, Try.ntmps33
    go_wp2_with (at_builtin; (refine wpList_append_lay (T := w) (l := []) rfl _ _ rfl kinI fI_c fI_1 rfl (by with_reducible repeat (first | exact ex_refl _ | exact ex_more | apply ex_alloc | apply ex_plus | apply ex_drew | apply ex_drewN)) ⟨rfl, World.ownsRow_made w _ 0 (Nat.le_refl _) (by decide) rfl⟩ rfl (hl.ex (by with_reducible repeat (first | exact ex_refl _ | exact ex_more | apply ex_alloc | apply ex_plus | apply ex_drew | apply ex_drewN))) (by omega) (by decide) ?_; intro ao' cap' y' hown'))
    go_ret
    rw [Nat.zero_add, List.nil_append] at hown'
    exact ⟨ao', _, cap', rfl, (by with_reducible repeat (first | exact ex_refl _ | exact ex_more | apply ex_alloc | apply ex_plus | apply ex_drew | apply ex_drewN)), hown'⟩

theorem cloneV (ao : Option Addr) (n cap : Nat) (l : List V3) (w : World) (hl : Lay fV w ao n l) (hn : n ≤ 10000) (hz : ao = none → cap = 0) :
    Calls Try.prog 30 #[.slice ao n cap] w fun e w' => RetO 49 3 fV w l e w' := by
  cases ao with
  | none =>
    obtain rfl : n = 0 := by rcases hl.at0 with h | ⟨g, off, h, _⟩; exact h; cases h
    obtain rfl := hz rfl
    obtain rfl := hl.zero
    go_enter Try.func30, Try.ntmps30
    go_wp2
    go_ret
    exact ⟨none, 0, 0, rfl, (by with_reducible repeat (first | exact ex_refl _ | exact ex_more | apply ex_alloc | apply ex_plus | apply ex_drew | apply ex_drewN)), own_nil⟩
  | some a =>
    go_enter Try.func30, Try.ntmps30
    go_wp2_with (at_builtin; (refine wpList_append_lay (T := w) (l := []) rfl _ _ rfl kinV fV_c fV_1 rfl (by with_reducible repeat (first | exact ex_refl _ | exact ex_more | apply ex_alloc | apply ex_plus | apply ex_drew | apply ex_drewN)) ⟨rfl, World.ownsRow_made w _ 0 (Nat.le_refl _) (by decide) rfl⟩ rfl (hl.ex (by with_reducible repeat (first | exact ex_refl _ | exact ex_more | apply ex_alloc | apply ex_plus | apply ex_drew | apply ex_drewN))) (by omega) (by decide) ?_; intro ao' cap' y' hown'))
    go_ret
    rw [Nat.zero_add, List.nil_append] at hown'
    exact ⟨ao', _, cap', rfl, (by with_reducible repeat (first | exact ex_refl _ | exact ex_more | apply ex_alloc | apply ex_plus | apply ex_drew | apply ex_drewN)), hown'⟩

theorem clone2 (ao : Option Addr) (n cap : Nat) (l : List (Int × Int)) (w : World) (hl : Lay f2 w ao n l) (hn : n ≤ 10000) (hz : ao = none → cap = 0) :
    Calls Try.prog 31 #[.slice ao n cap] w fun e w' => RetO 50 2 f2 w l e w' := by
  cases ao with
  | none =>
    obtain rfl : n = 0 := by rcases hl.at0 with h | ⟨g, off, h, _⟩; exact h; cases h
    obtain rfl := hz rfl
    obtain rfl := hl.zero
    go_enter Try.func31, Try.ntmps31
    go_wp2
    go_ret
    exact ⟨none, 0, 0, rfl, (by with_reducible repeat (first | exact ex_refl _ | exact ex_more | apply ex_alloc | apply ex_plus | apply ex_drew | apply ex_drewN)), own_nil⟩
  | some a =>
    go_enter Try.func31, Try.ntmps31
    go_wp2_with (at_builtin; (refine wpList_append_lay (T := w) (l := []) rfl _ _ rfl kin2 f2_c f2_1 rfl (by with_reducible repeat (first | exact ex_refl _ | exact ex_more | apply ex_alloc | apply ex_plus | apply ex_drew | apply ex_drewN)) ⟨rfl, World.ownsRow_made w _ 0 (Nat.le_refl _) (by decide) rfl⟩ rfl (hl.ex (by with_reducible repeat (first | exact ex_refl _ | exact ex_more | apply ex_alloc | apply ex_plus | apply ex_drew | apply ex_drewN))) (by omega) (by decide) ?_; intro ao' cap' y' hown'))
    go_ret
    rw [Nat.zero_add, List.nil_append] at hown'
    exact ⟨ao', _, cap', rfl, (by with_reducible repeat (first | exact ex_refl _ | exact ex_more | apply ex_alloc | apply ex_plus | apply ex_drew | apply ex_drewN)), hown'⟩

end Go.Proofs.Ytkiahgkfgcjkgaa
