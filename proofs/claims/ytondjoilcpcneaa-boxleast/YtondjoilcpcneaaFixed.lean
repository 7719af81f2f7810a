/- What the functions of package fixed, and the document's own of dioramaref01, give: one contract a function. -/
import Derived.Test.YtondjoilcpcneaaChecked
import Derived.Test.YtondjoilcpcneaaExt
import Derived.Test.YtondjoilcpcneaaFixedMath
namespace Go.Proofs.Ytondjoilcpcneaa
open Go.RowKit
set_option linter.unusedSimpArgs false
attribute [local go_sem] plus_size plus_drew dn_set dn_alloc dn_plus plus_dn cell_plus frozen_plus set_plus cell_alloc frozen_alloc set_alloc

theorem ret_int {k : IntKind} {a b : Int} (h : a = b) : Ending.returned (.int k a) = .returned (.int k b) := by rw [h]

theorem down_calls (a b : Int) (ha : -9223372036854775808 ≤ a) (ha2 : a ≤ 9223372036854775807) (hb : 1 ≤ b) (w : World) :
    Calls Try.prog 56 #[.int .i64 a, .int .i64 b] w fun e w' => e = .returned (.int .i64 (a / b)) ∧ Below w.heap.size w w' := by
  have hd := (tdiv_bd hb ha ha2).1
  go_enter Try.func56, Try.ntmps56
  go_wp2
  go_quiet (fail)
  go_wp2
  · go_ret
    rename_i hm
    refine ⟨ret_int ?_, ⟨rfl, rfl, rfl, Nat.le_refl _, fun _ _ => rfl⟩⟩
    exact tmod_lt hb hm
  · go_ret
    rename_i hm
    exact ⟨ret_int (tmod_ge hb hm), ⟨rfl, rfl, rfl, Nat.le_refl _, fun _ _ => rfl⟩⟩

def flo (a b : Int) : Int × Int := if 1 ≤ b then (a / b, 0) else (0, 2)
def cei (a b : Int) : Int × Int := if 1 ≤ b then (up a b, 0) else (0, 2)

theorem floor_calls (a b : Int) (ha : -9223372036854775808 ≤ a) (ha2 : a ≤ 9223372036854775807) (w : World) :
    Calls Try.prog 58 #[.int .i64 a, .int .i64 b] w fun e w' => e = .returned (.tuple #[.int .i64 (flo a b).1, .int .i64 (flo a b).2]) ∧ Below w.heap.size w w' := by
  by_cases hb : 1 ≤ b
  · rw [show flo a b = (a / b, 0) from if_pos hb]
    go_enter Try.func58, Try.ntmps58
    go_wp2_with (go_at_call 56; refine (plus_post (down_calls a b ha ha2 hb _)).mono ?_; rintro e w' ⟨rfl, x, rfl⟩)
    go_ret2
    exact ⟨rfl, plus_below _ _⟩
  · rw [show flo a b = (0, 2) from if_neg hb]
    go_enter Try.func58, Try.ntmps58
    go_wp2
    go_ret2
    exact ⟨rfl, Below.refl _ _⟩

theorem check_calls (l h : Int) (w : World) :
    Calls Try.prog 53 #[.agg #[.int .i64 l, .int .i64 h]] w fun e w' => e = .returned (.int .i64 (chk l h)) ∧ Below w.heap.size w w' := by
  by_cases h1 : -1099511627776 ≤ l
  · by_cases h2 : h ≤ 1099511627776
    · by_cases h3 : l ≤ h
      · rw [chk_yes h1 h2 h3]
        go_enter Try.func53, Try.ntmps53
        go_wp2
        go_ret
        exact ⟨rfl, (Below.refl _ _).alloc (Nat.le_refl _) _⟩
      · rw [chk_no (by omega)]
        go_enter Try.func53, Try.ntmps53
        go_wp2
        go_ret
        exact ⟨rfl, (Below.refl _ _).alloc (Nat.le_refl _) _⟩
    · rw [chk_no (by omega)]
      go_enter Try.func53, Try.ntmps53
      go_wp2
      go_ret
      exact ⟨rfl, (Below.refl _ _).alloc (Nat.le_refl _) _⟩
  · rw [chk_no (by omega)]
    go_enter Try.func53, Try.ntmps53
    go_wp2
    go_ret
    exact ⟨rfl, (Below.refl _ _).alloc (Nat.le_refl _) _⟩

theorem both_calls (a b c d : Int) (w : World) :
    Calls Try.prog 55 #[.agg #[.int .i64 a, .int .i64 b], .agg #[.int .i64 c, .int .i64 d]] w fun e w' => e = .returned (.int .i64 (if chk a b = 0 then chk c d else chk a b)) ∧ Below w.heap.size w w' := by
  rcases chk_or a b with ⟨h, _⟩ | ⟨h, _⟩
  · rw [if_pos h]
    go_enter Try.func55, Try.ntmps55
    go_wp2_with (go_at_call 53; refine (plus_post (check_calls _ _ _)).mono ?_; rintro e w' ⟨rfl, x, rfl⟩)
    go_ret
    exact ⟨rfl, by with_reducible repeat (first | exact Below.refl _ _ | apply ba | apply bp | apply bd | apply bn)⟩
  · rw [if_neg (by omega), h]
    go_enter Try.func55, Try.ntmps55
    go_wp2_with (go_at_call 53; refine (plus_post (check_calls _ _ _)).mono ?_; rintro e w' ⟨rfl, x, rfl⟩)
    go_ret
    exact ⟨rfl, by with_reducible repeat (first | exact Below.refl _ _ | apply ba | apply bp | apply bd | apply bn)⟩

theorem span_calls (l h : Int) (w : World) :
    Calls Try.prog 54 #[.int .i64 l, .int .i64 h] w fun e w' => e = .returned (.tuple #[.agg #[.int .i64 (rng l h).1, .int .i64 (rng l h).2.1], .int .i64 (rng l h).2.2]) ∧ Below w.heap.size w w' := by
  rcases chk_or l h with ⟨g, _⟩ | ⟨g, _⟩
  · rw [rng_yes g]
    go_enter Try.func54, Try.ntmps54
    go_wp2_with (go_at_call 53; refine (plus_post (check_calls _ _ _)).mono ?_; rintro e w' ⟨rfl, x, rfl⟩)
    exact bodyPost_ret (v := .tuple #[.agg #[.int .i64 l, .int .i64 h], .int .i64 0]) (by simp [results, Try.results54, go_sem, ↓IntWalk.iteOmega]) rfl ⟨rfl, by with_reducible repeat (first | exact Below.refl _ _ | apply ba | apply bp | apply bd | apply bn)⟩
  · rw [rng_no g]
    go_enter Try.func54, Try.ntmps54
    go_wp2_with (go_at_call 53; refine (plus_post (check_calls _ _ _)).mono ?_; rintro e w' ⟨rfl, x, rfl⟩)
    exact bodyPost_ret (v := .tuple #[.agg #[.int .i64 0, .int .i64 0], .int .i64 20]) (by simp [results, Try.results54, go_sem, ↓IntWalk.iteOmega]) rfl ⟨rfl, by with_reducible repeat (first | exact Below.refl _ _ | apply ba | apply bp | apply bd | apply bn)⟩

theorem add_calls (a b c d : Int) (w : World) :
    Calls Try.prog 46 #[.agg #[.int .i64 a, .int .i64 b], .agg #[.int .i64 c, .int .i64 d]] w fun e w' => e = .returned (.tuple #[.agg #[.int .i64 (add a b c d).1, .int .i64 (add a b c d).2.1], .int .i64 (add a b c d).2.2]) ∧ Below w.heap.size w w' := by
  rcases chk_or a b with ⟨h1, g1, g2, g3⟩ | ⟨h1, _⟩
  · rcases chk_or c d with ⟨h2, g4, g5, g6⟩ | ⟨h2, _⟩
    · rw [show add a b c d = rng (a + c) (b + d) by simp [add, h1, h2]]
      go_enter Try.func46, Try.ntmps46
      go_wp2_with (first | (go_at_call 55; refine (plus_post (both_calls _ _ _ _ _)).mono ?_; rintro e w' ⟨rfl, x, rfl⟩) | (go_at_call 54; refine (plus_post (span_calls _ _ _)).mono ?_; rintro e w' ⟨rfl, x, rfl⟩))
      exact bodyPost_ret (v := .tuple #[.agg #[.int .i64 _, .int .i64 _], .int .i64 _]) (by simp [results, Try.results46, go_sem, ↓IntWalk.iteOmega]) rfl ⟨rfl, by with_reducible repeat (first | exact Below.refl _ _ | apply ba | apply bp | apply bd | apply bn)⟩
    · rw [show add a b c d = (0, 0, 8) by simp [add, h1, h2]]
      go_enter Try.func46, Try.ntmps46
      go_wp2_with (first | (go_at_call 55; refine (plus_post (both_calls _ _ _ _ _)).mono ?_; rintro e w' ⟨rfl, x, rfl⟩) | (go_at_call 54; refine (plus_post (span_calls _ _ _)).mono ?_; rintro e w' ⟨rfl, x, rfl⟩))
      exact bodyPost_ret (v := .tuple #[.agg #[.int .i64 _, .int .i64 _], .int .i64 _]) (by simp [results, Try.results46, go_sem, ↓IntWalk.iteOmega]) rfl ⟨rfl, by with_reducible repeat (first | exact Below.refl _ _ | apply ba | apply bp | apply bd | apply bn)⟩
  · rw [show add a b c d = (0, 0, 8) by simp [add, h1]]
    go_enter Try.func46, Try.ntmps46
    go_wp2_with (first | (go_at_call 55; refine (plus_post (both_calls _ _ _ _ _)).mono ?_; rintro e w' ⟨rfl, x, rfl⟩) | (go_at_call 54; refine (plus_post (span_calls _ _ _)).mono ?_; rintro e w' ⟨rfl, x, rfl⟩))
    exact bodyPost_ret (v := .tuple #[.agg #[.int .i64 _, .int .i64 _], .int .i64 _]) (by simp [results, Try.results46, go_sem, ↓IntWalk.iteOmega]) rfl ⟨rfl, by with_reducible repeat (first | exact Below.refl _ _ | apply ba | apply bp | apply bd | apply bn)⟩

end Go.Proofs.Ytondjoilcpcneaa
