/- What the small functions of package box give that are handed pointers to a field: side, sideMayBe, sideHolds, sideInside. -/
import Derived.Test.YtondjoilcpcneaaTail
import Derived.Test.YtondjoilcpcneaaFresh
import Derived.Test.YtondjoilcpcneaaBoxMath
import Derived.Test.YtondjoilcpcneaaFixed3
import Derived.Test.YtondjoilcpcneaaVec1
namespace Go.Proofs.Ytondjoilcpcneaa
open Go.RowKit Go.ChangeShapes Go.WideShapes Go.ChangeAt
set_option linter.unusedSimpArgs false
set_option linter.unusedVariables false
attribute [local go_sem] plus_size plus_drew dn_set dn_alloc dn_plus plus_dn cell_plus frozen_plus set_plus cell_alloc frozen_alloc set_alloc

/-- from -32768 to 32768, and the right way round -/
def sideB (l h : Int) : Bool := decide (-32768 ≤ l ∧ l ≤ h ∧ h ≤ 32768)

theorem sideMay_calls (b o b2 o2 : Nat) (l h : Int) (w : World) (c1 : w.cell? ⟨b, o, none⟩ = some (.int .i64 l)) (c2 : w.cell? ⟨b2, o2, none⟩ = some (.int .i64 h)) :
    Calls Try.prog 31 #[.pointer (some ⟨b, o, none⟩), .pointer (some ⟨b2, o2, none⟩)] w fun e w' => e = .returned (.bool (sideB l h)) ∧ Below w.heap.size w w' := by
  by_cases h1 : -32768 ≤ l
  · by_cases h2 : l ≤ h
    · by_cases h3 : h ≤ 32768
      · rw [show sideB l h = true by simp [sideB, h1, h2, h3]]
        go_enter Try.func31, Try.ntmps31
        go_wp2
        go_quiet (fail)
        go_wp2
        go_ret
        exact ⟨rfl, by with_reducible repeat (first | exact Below.refl _ _ | apply ba | apply bp | apply bd | apply bn)⟩
      · rw [show sideB l h = false by simp [sideB, h1, h2, h3]]
        have d3 : decide (h ≤ 32768) = false := decide_eq_false h3
        go_enter Try.func31, Try.ntmps31
        go_wp2
        go_quiet (fail)
        go_wp2
        go_ret
        exact ⟨rfl, by with_reducible repeat (first | exact Below.refl _ _ | apply ba | apply bp | apply bd | apply bn)⟩
    · rw [show sideB l h = false by simp [sideB, h2]]
      have d2 : decide (l ≤ h) = false := decide_eq_false h2
      go_enter Try.func31, Try.ntmps31
      go_wp2
      go_quiet (fail)
      go_wp2
      go_ret
      exact ⟨rfl, by with_reducible repeat (first | exact Below.refl _ _ | apply ba | apply bp | apply bd | apply bn)⟩
  · rw [show sideB l h = false by simp [sideB, h1]]
    have d1 : decide (-32768 ≤ l) = false := decide_eq_false h1
    go_enter Try.func31, Try.ntmps31
    go_wp2
    go_quiet (fail)
    go_wp2
    go_ret
    exact ⟨rfl, by with_reducible repeat (first | exact Below.refl _ _ | apply ba | apply bp | apply bd | apply bn)⟩

theorem side_calls (b o b2 o2 : Nat) (l h : Int) (w : World) (c1 : w.cell? ⟨b, o, none⟩ = some (.int .i64 l)) (c2 : w.cell? ⟨b2, o2, none⟩ = some (.int .i64 h)) (hb : b < w.heap.size) (hb2 : b2 < w.heap.size) :
    Calls Try.prog 29 #[.pointer (some ⟨b, o, none⟩), .pointer (some ⟨b2, o2, none⟩)] w fun e w' => e = .returned (.agg #[.int .i64 l, .int .i64 h]) ∧ Below w.heap.size w w' := by
  go_enter Try.func29, Try.ntmps29
  go_wp2
  refine region_tail 7 (by kernel_rfl) (by kernel_rfl) ?_
  simp only [List.take_succ_cons, List.take_zero, List.drop_succ_cons, List.drop_zero]
  (repeat (go_big_quiet_step (fail)))
  refine wpQuiet_nil ?_
  rintro _ ⟨x2, rfl⟩
  go_wp2
  exact bodyPost_ret (v := .agg #[.int .i64 l, .int .i64 h]) (by simp [results, Try.results29, go_sem, ↓IntWalk.iteOmega]) rfl ⟨rfl, by with_reducible repeat (first | exact Below.refl _ _ | apply ba | apply bp | apply bd | apply bn)⟩

theorem sideHolds_calls (b o b2 o2 : Nat) (l h n : Int) (w : World) (c1 : w.cell? ⟨b, o, none⟩ = some (.int .i64 l)) (c2 : w.cell? ⟨b2, o2, none⟩ = some (.int .i64 h)) (hb : b < w.heap.size) (hb2 : b2 < w.heap.size) :
    Calls Try.prog 32 #[.pointer (some ⟨b, o, none⟩), .pointer (some ⟨b2, o2, none⟩), .int .i64 n] w fun e w' => e = .returned (.bool (inB l h n)) ∧ Below w.heap.size w w' := by
  go_enter Try.func32, Try.ntmps32
  go_wp2_with (first | (go_at_call 29; refine (plus_post (side_calls _ _ _ _ _ _ _ c1 c2 hb hb2)).mono ?_; rintro e w' ⟨rfl, nx, rfl⟩) | (go_at_call 48; refine (plus_post (holds_calls _ _ _ _)).mono ?_; rintro e w' ⟨rfl, nx, rfl⟩))
  go_ret
  exact ⟨rfl, by with_reducible repeat (first | exact Below.refl _ _ | apply ba | apply bp | apply bd | apply bn)⟩

theorem sideInside_calls (b o b2 o2 : Nat) (l h l2 h2 : Int) (w : World) (c1 : w.cell? ⟨b, o, none⟩ = some (.int .i64 l)) (c2 : w.cell? ⟨b2, o2, none⟩ = some (.int .i64 h)) (hb : b < w.heap.size) (hb2 : b2 < w.heap.size) :
    Calls Try.prog 35 #[.pointer (some ⟨b, o, none⟩), .pointer (some ⟨b2, o2, none⟩), .agg #[.int .i64 l2, .int .i64 h2]] w fun e w' => e = .returned (.bool (decide (l2 ≤ l ∧ h ≤ h2))) ∧ Below w.heap.size w w' := by
  by_cases h1 : l2 ≤ l
  · by_cases h3 : h ≤ h2
    · rw [show decide (l2 ≤ l ∧ h ≤ h2) = true by simp [h1, h3]]
      go_enter Try.func35, Try.ntmps35
      go_wp2
      go_quiet (fail)
      go_wp2
      go_ret
      exact ⟨rfl, by with_reducible repeat (first | exact Below.refl _ _ | apply ba | apply bp | apply bd | apply bn)⟩
    · rw [show decide (l2 ≤ l ∧ h ≤ h2) = false by simp [h3]]
      have d3 : decide (h ≤ h2) = false := decide_eq_false h3
      go_enter Try.func35, Try.ntmps35
      go_wp2
      go_quiet (fail)
      go_wp2
      go_ret
      exact ⟨rfl, by with_reducible repeat (first | exact Below.refl _ _ | apply ba | apply bp | apply bd | apply bn)⟩
  · rw [show decide (l2 ≤ l ∧ h ≤ h2) = false by simp [h1]]
    have d1 : decide (l2 ≤ l) = false := decide_eq_false h1
    go_enter Try.func35, Try.ntmps35
    go_wp2
    go_quiet (fail)
    go_wp2
    go_ret
    exact ⟨rfl, by with_reducible repeat (first | exact Below.refl _ _ | apply ba | apply bp | apply bd | apply bn)⟩

end Go.Proofs.Ytondjoilcpcneaa
