/- What states.CheckLook, sayMayBe, things, withColor .. and dioramaref07.MayLook, CheckLook give. -/
import Derived.Test.YthcplebmffbmpaaProg
import Derived.Test.YthcplebmffbmpaaStMath
import Derived.Test.YthcplebmffbmpaaTail
import Derived.Test.YthcplebmffbmpaaFresh
namespace Go.Proofs.Ythcplebmffbmpaa
open Go.RowKit Go.ChangeShapes Go.WideShapes Go.ChangeAt
set_option linter.unusedSimpArgs false
set_option linter.unusedVariables false
attribute [local go_sem] plus_size plus_drew dn_set dn_alloc dn_plus plus_dn cell_plus frozen_plus set_plus cell_alloc frozen_alloc set_alloc

theorem and1 {n : Int} (h : U8 n) : bits .and .u8 n 1 = n % 2 := by
  have e : ∀ k : Fin 256, bits .and .u8 ((k.val : Nat) : Int) 1 = ((k.val : Nat) : Int) % 2 := by decide +kernel
  obtain ⟨h0, h1⟩ := h
  have := e ⟨n.toNat, by omega⟩
  simpa [Int.toNat_of_nonneg h0] using this
theorem look_or (ur ug ub ua ut uc ui : Int) (ul : Bool) (un : Int) : (ut < -1 ∧ lookOk ⟨ur, ug, ub, ua, ut, uc, ui, ul, un⟩ = false) ∨ (-1 ≤ ut ∧ 16 ≤ ut ∧ lookOk ⟨ur, ug, ub, ua, ut, uc, ui, ul, un⟩ = false) ∨ (-1 ≤ ut ∧ ut < 16 ∧ 2 < uc ∧ lookOk ⟨ur, ug, ub, ua, ut, uc, ui, ul, un⟩ = false) ∨ (-1 ≤ ut ∧ ut < 16 ∧ uc ≤ 2 ∧ ui < -1024 ∧ lookOk ⟨ur, ug, ub, ua, ut, uc, ui, ul, un⟩ = false) ∨
    (-1 ≤ ut ∧ ut < 16 ∧ uc ≤ 2 ∧ -1024 ≤ ui ∧ 1024 < ui ∧ lookOk ⟨ur, ug, ub, ua, ut, uc, ui, ul, un⟩ = false) ∨ (-1 ≤ ut ∧ ut < 16 ∧ uc ≤ 2 ∧ -1024 ≤ ui ∧ ui ≤ 1024 ∧ un < 0 ∧ lookOk ⟨ur, ug, ub, ua, ut, uc, ui, ul, un⟩ = false) ∨
    (-1 ≤ ut ∧ ut < 16 ∧ uc ≤ 2 ∧ -1024 ≤ ui ∧ ui ≤ 1024 ∧ 0 ≤ un ∧ 15 < un ∧ lookOk ⟨ur, ug, ub, ua, ut, uc, ui, ul, un⟩ = false) ∨ (-1 ≤ ut ∧ ut < 16 ∧ uc ≤ 2 ∧ -1024 ≤ ui ∧ ui ≤ 1024 ∧ 0 ≤ un ∧ un ≤ 15 ∧ lookOk ⟨ur, ug, ub, ua, ut, uc, ui, ul, un⟩ = true) := by
  have e : lookOk ⟨ur, ug, ub, ua, ut, uc, ui, ul, un⟩ = (decide (-1 ≤ ut) && (decide (ut < 16) && (decide (uc ≤ 2) && (decide (-1024 ≤ ui) && (decide (ui ≤ 1024) && (decide (0 ≤ un) && decide (un ≤ 15))))))) := rfl
  rw [e]
  clear e
  by_cases h0 : ut < -1
  · exact .inl ⟨h0, by rw [show decide (-1 ≤ ut) = false from decide_eq_false (by omega)]; rfl⟩
  have g0 : -1 ≤ ut := by omega
  by_cases h1 : 16 ≤ ut
  · exact .inr (.inl ⟨g0, h1, by rw [show decide (-1 ≤ ut) = true from decide_eq_true g0, show decide (ut < 16) = false from decide_eq_false (by omega)]; rfl⟩)
  have g1 : ut < 16 := by omega
  by_cases h2 : 2 < uc
  · exact .inr (.inr (.inl ⟨g0, g1, h2, by rw [show decide (-1 ≤ ut) = true from decide_eq_true g0, show decide (ut < 16) = true from decide_eq_true g1, show decide (uc ≤ 2) = false from decide_eq_false (by omega)]; rfl⟩))
  have g2 : uc ≤ 2 := by omega
  by_cases h3 : ui < -1024
  · exact .inr (.inr (.inr (.inl ⟨g0, g1, g2, h3, by rw [show decide (-1 ≤ ut) = true from decide_eq_true g0, show decide (ut < 16) = true from decide_eq_true g1, show decide (uc ≤ 2) = true from decide_eq_true g2, show decide (-1024 ≤ ui) = false from decide_eq_false (by omega)]; rfl⟩)))
  have g3 : -1024 ≤ ui := by omega
  by_cases h4 : 1024 < ui
  · exact .inr (.inr (.inr (.inr (.inl ⟨g0, g1, g2, g3, h4, by rw [show decide (-1 ≤ ut) = true from decide_eq_true g0, show decide (ut < 16) = true from decide_eq_true g1, show decide (uc ≤ 2) = true from decide_eq_true g2, show decide (-1024 ≤ ui) = true from decide_eq_true g3, show decide (ui ≤ 1024) = false from decide_eq_false (by omega)]; rfl⟩))))
  have g4 : ui ≤ 1024 := by omega
  by_cases h5 : un < 0
  · exact .inr (.inr (.inr (.inr (.inr (.inl ⟨g0, g1, g2, g3, g4, h5, by rw [show decide (-1 ≤ ut) = true from decide_eq_true g0, show decide (ut < 16) = true from decide_eq_true g1, show decide (uc ≤ 2) = true from decide_eq_true g2, show decide (-1024 ≤ ui) = true from decide_eq_true g3, show decide (ui ≤ 1024) = true from decide_eq_true g4, show decide (0 ≤ un) = false from decide_eq_false (by omega)]; rfl⟩)))))
  have g5 : 0 ≤ un := by omega
  by_cases h6 : 15 < un
  · exact .inr (.inr (.inr (.inr (.inr (.inr (.inl ⟨g0, g1, g2, g3, g4, g5, h6, by rw [show decide (-1 ≤ ut) = true from decide_eq_true g0, show decide (ut < 16) = true from decide_eq_true g1, show decide (uc ≤ 2) = true from decide_eq_true g2, show decide (-1024 ≤ ui) = true from decide_eq_true g3, show decide (ui ≤ 1024) = true from decide_eq_true g4, show decide (0 ≤ un) = true from decide_eq_true g5, show decide (un ≤ 15) = false from decide_eq_false (by omega)]; rfl⟩))))))
  have g6 : un ≤ 15 := by omega
  exact .inr (.inr (.inr (.inr (.inr (.inr (.inr (⟨g0, g1, g2, g3, g4, g5, g6, by rw [show decide (-1 ≤ ut) = true from decide_eq_true g0, show decide (ut < 16) = true from decide_eq_true g1, show decide (uc ≤ 2) = true from decide_eq_true g2, show decide (-1024 ≤ ui) = true from decide_eq_true g3, show decide (ui ≤ 1024) = true from decide_eq_true g4, show decide (0 ≤ un) = true from decide_eq_true g5, show decide (un ≤ 15) = true from decide_eq_true g6]; rfl⟩)))))))

set_option maxHeartbeats 2000000 in
theorem look_calls (ur ug ub ua ut uc ui : Int) (ul : Bool) (un : Int) (w : World) :
    Calls Try.prog 13 #[.agg #[.int .u8 ur, .int .u8 ug, .int .u8 ub, .int .u8 ua, .int .i64 ut, .int .u8 uc, .int .i64 ui, .bool ul, .int .i64 un]] w fun e w' => e = .returned (.int .i64 (lookErr ⟨ur, ug, ub, ua, ut, uc, ui, ul, un⟩)) ∧ Below w.heap.size w w' := by
  rcases look_or ur ug ub ua ut uc ui ul un with ⟨h1, hL⟩ | ⟨h1, h2, hL⟩ | ⟨h1, h2, h3, hL⟩ | ⟨h1, h2, h3, h4, hL⟩ | ⟨h1, h2, h3, h4, h5, hL⟩ | ⟨h1, h2, h3, h4, h5, h6, hL⟩ | ⟨h1, h2, h3, h4, h5, h6, h7, hL⟩ | ⟨h1, h2, h3, h4, h5, h6, h7, hL⟩
  all_goals
    rw [lookErr, hL]
    clear hL
    go_enter Try.func13, Try.ntmps13
    go_wp2
    go_ret
    exact ⟨rfl, by with_reducible repeat (first | exact Below.refl _ _ | apply ba | apply bp | apply bd | apply bn)⟩

set_option maxHeartbeats 2000000 in
theorem mayLook_calls (ur ug ub ua ut uc ui : Int) (ul : Bool) (un : Int) (w : World) :
    Calls Try.prog 28 #[.agg #[.int .u8 ur, .int .u8 ug, .int .u8 ub, .int .u8 ua, .int .i64 ut, .int .u8 uc, .int .i64 ui, .bool ul, .int .i64 un]] w fun e w' => e = .returned (.bool (lookOk ⟨ur, ug, ub, ua, ut, uc, ui, ul, un⟩)) ∧ Below w.heap.size w w' := by
  rcases look_or ur ug ub ua ut uc ui ul un with ⟨h1, hL⟩ | ⟨h1, h2, hL⟩ | ⟨h1, h2, h3, hL⟩ | ⟨h1, h2, h3, h4, hL⟩ | ⟨h1, h2, h3, h4, h5, hL⟩ | ⟨h1, h2, h3, h4, h5, h6, hL⟩ | ⟨h1, h2, h3, h4, h5, h6, h7, hL⟩ | ⟨h1, h2, h3, h4, h5, h6, h7, hL⟩
  all_goals
    rw [hL]
    clear hL
    go_enter Try.func28, Try.ntmps28
    go_wp2
    go_ret
    exact ⟨by simp; try omega, by with_reducible repeat (first | exact Below.refl _ _ | apply ba | apply bp | apply bd | apply bn)⟩

theorem rlook_calls (ur ug ub ua ut uc ui : Int) (ul : Bool) (un : Int) (w : World) :
    Calls Try.prog 17 #[.agg #[.int .u8 ur, .int .u8 ug, .int .u8 ub, .int .u8 ua, .int .i64 ut, .int .u8 uc, .int .i64 ui, .bool ul, .int .i64 un]] w fun e w' => e = .returned (.int .i64 (lookErr ⟨ur, ug, ub, ua, ut, uc, ui, ul, un⟩)) ∧ Below w.heap.size w w' := by
  cases hL : lookOk ⟨ur, ug, ub, ua, ut, uc, ui, ul, un⟩
  all_goals
    rw [lookErr, hL]
    go_enter Try.func17, Try.ntmps17
    go_wp2_with (go_at_call 28; refine (plus_post (mayLook_calls _ _ _ _ _ _ _ _ _ _)).mono ?_; rintro e w' ⟨rfl, nx, rfl⟩; simp only [hL])
    go_ret
    exact ⟨rfl, by with_reducible repeat (first | exact Below.refl _ _ | apply ba | apply bp | apply bd | apply bn)⟩

theorem say_or {n : Int} (h : U8 n) : (n = 0 ∧ sayOk n = true) ∨ (n ≠ 0 ∧ n % 2 = 0 ∧ sayOk n = false) ∨ (n ≠ 0 ∧ n % 2 = 1 ∧ 7 < n ∧ sayOk n = false) ∨ (n ≠ 0 ∧ n % 2 = 1 ∧ n ≤ 7 ∧ sayOk n = true) := by
  obtain ⟨h0, h1⟩ := h
  have e : sayOk n = (decide (n = 0) || (decide (n = 1) || (decide (n = 3) || (decide (n = 5) || decide (n = 7))))) := rfl
  rw [e]
  simp only [Bool.or_eq_true, Bool.or_eq_false_iff, decide_eq_true_eq, decide_eq_false_iff_not]
  omega

theorem say_calls (n : Int) (hn : U8 n) (w : World) :
    Calls Try.prog 24 #[.int .u8 n] w fun e w' => e = .returned (.bool (sayOk n)) ∧ Below w.heap.size w w' := by
  have ha := and1 hn
  rcases say_or hn with ⟨rfl, hL⟩ | ⟨h1, h2, hL⟩ | ⟨h1, h2, h3, hL⟩ | ⟨h1, h2, h3, hL⟩
  all_goals
    rw [hL]
    try rw [h2] at ha
    try (have d1 : (n == 0) = false := by simp [h1])
    clear hL
    go_enter Try.func24, Try.ntmps24
    go_wp2
    go_ret
    exact ⟨by simp; try omega, by with_reducible repeat (first | exact Below.refl _ _ | apply ba | apply bp | apply bd | apply bn)⟩

end Go.Proofs.Ythcplebmffbmpaa
