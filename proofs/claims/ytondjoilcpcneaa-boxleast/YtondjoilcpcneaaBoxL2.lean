/- What box.Of gives. -/
import Derived.Test.YtondjoilcpcneaaBoxL
namespace Go.Proofs.Ytondjoilcpcneaa
open Go.RowKit Go.ChangeShapes Go.WideShapes Go.ChangeAt
set_option linter.unusedSimpArgs false
set_option linter.unusedVariables false
attribute [local go_sem] plus_size plus_drew dn_set dn_alloc dn_plus plus_dn cell_plus frozen_plus set_plus cell_alloc frozen_alloc set_alloc

theorem Lies.plus {w : World} {g off n : Nat} {p : Nat → V3} (h : Lies w g off n p) (x : List More) : Lies (plus w x) g off n p :=
  ⟨by rw [plus_size]; have := h.1; omega, fun k hk => by rw [plus_cell _ _ _ _ h.1, plus_cell _ _ _ _ h.1, plus_cell _ _ _ _ h.1]; exact h.2 k hk⟩
theorem Lies.below {w w' : World} {g off n : Nat} {p : Nat → V3} (h : Lies w g off n p) (hb : Below w.heap.size w w') : Lies w' g off n p := by
  obtain ⟨x, rfl⟩ := below_plus hb
  exact h.plus x
theorem Lies.ex {w w' : World} {g off n : Nat} {p : Nat → V3} (h : Lies w g off n p) (hb : ∃ x, w' = Go.Proofs.Ytondjoilcpcneaa.plus w x) : Lies w' g off n p := by
  obtain ⟨x, rfl⟩ := hb
  exact h.plus x

/-- of the first k points all numbers are from -32768 to 32768 -/
def seen (p : Nat → V3) : Nat → Bool
  | 0 => true
  | k + 1 => seen p k && all3 (p k) 32768
theorem seen_not {p : Nat → V3} {k : Nat} (h : all3 (p k) 32768 = false) : ∀ n, k < n → seen p n = false
  | 0, hk => by omega
  | n + 1, hk => by
    by_cases e : k = n
    · subst e; simp [seen, h]
    · simp [seen, seen_not h n (by omega)]
theorem seen_at {p : Nat → V3} {n : Nat} (h : seen p n = true) : ∀ k, k < n → all3 (p k) 32768 = true := by
  intro k hk
  cases e : all3 (p k) 32768
  · rw [seen_not e n hk] at h; cases h
  · rfl
/-- what Of tells -/
def ofR (p : Nat → V3) (n : Nat) : B6 × Int := if n < 1 ∨ 4096 < n then (zeroBx, 4) else if seen p n = true then (lst p n, 0) else (zeroBx, 20)
def ofV (p : Nat → V3) (n : Nat) : Value := .tuple #[.agg #[.int .i64 ((ofR p n).1).lo.x, .int .i64 ((ofR p n).1).lo.y, .int .i64 ((ofR p n).1).lo.z, .int .i64 ((ofR p n).1).hi.x, .int .i64 ((ofR p n).1).hi.y, .int .i64 ((ofR p n).1).hi.z], .int .i64 (ofR p n).2]
theorem ofV_many {p : Nat → V3} {n : Nat} (h : n < 1 ∨ 4096 < n) : ofV p n = .tuple #[.agg #[.int .i64 0, .int .i64 0, .int .i64 0, .int .i64 0, .int .i64 0, .int .i64 0], .int .i64 4] := by
  rw [ofV, show ofR p n = (zeroBx, 4) from if_pos h]
  rfl
theorem ofV_bad {p : Nat → V3} {n k : Nat} (h1 : 0 < n) (h2 : n ≤ 4096) (hk : k < n) (h : all3 (p k) 32768 = false) : ofV p n = .tuple #[.agg #[.int .i64 0, .int .i64 0, .int .i64 0, .int .i64 0, .int .i64 0, .int .i64 0], .int .i64 20] := by
  rw [ofV, show ofR p n = (zeroBx, 20) from (if_neg (by omega)).trans (if_neg (by rw [seen_not h n hk]; simp))]
  rfl
theorem ofV_good {p : Nat → V3} {n : Nat} (h1 : 0 < n) (h2 : n ≤ 4096) (h : seen p n = true) : ofV p n = .tuple #[.agg #[.int .i64 (lst p n).lo.x, .int .i64 (lst p n).lo.y, .int .i64 (lst p n).lo.z, .int .i64 (lst p n).hi.x, .int .i64 (lst p n).hi.y, .int .i64 (lst p n).hi.z], .int .i64 0] := by
  rw [ofV, show ofR p n = (lst p n, 0) from (if_neg (by omega)).trans (if_pos h)]
theorem chkPt_yes {v : V3} (h : all3 v 32768 = true) : chkBx ⟨⟨v.x, v.y, v.z⟩, ⟨v.x, v.y, v.z⟩⟩ = 0 := by
  have := all3_of h
  exact if_pos (by rw [may_sides]; simp [sideB]; omega)
theorem chkPt_no {v : V3} (h : all3 v 32768 = false) : chkBx ⟨⟨v.x, v.y, v.z⟩, ⟨v.x, v.y, v.z⟩⟩ = 8 := by
  refine if_neg fun e => ?_
  rw [may_sides] at e
  simp [sideB] at e
  rw [all3_mk (by omega)] at h
  cases h

theorem of_many (ao : Option Addr) (n cap : Nat) (p : Nat → V3) (w : World) (hn : n ≤ 10000) (h : n < 1 ∨ 4096 < n) :
    Calls Try.prog 13 #[.slice ao n cap] w fun e w' => e = .returned (ofV p n) ∧ Below w.heap.size w w' := by
  rw [ofV_many h]
  by_cases h1 : n < 1
  · obtain rfl : n = 0 := by omega
    go_enter Try.func13, Try.ntmps13
    go_wp2
    exact bodyPost_ret (v := .tuple #[.agg #[.int .i64 0, .int .i64 0, .int .i64 0, .int .i64 0, .int .i64 0, .int .i64 0], .int .i64 4]) (by simp [results, Try.results13, go_sem, ↓IntWalk.iteOmega]) rfl ⟨rfl, by with_reducible repeat (first | exact Below.refl _ _ | apply ba | apply bp | apply bd | apply bn)⟩
  · have h2 : (4096 : Int) < (n : Int) := by omega
    have h3 : ¬ (n : Int) < 1 := by omega
    go_enter Try.func13, Try.ntmps13
    go_wp2
    exact bodyPost_ret (v := .tuple #[.agg #[.int .i64 0, .int .i64 0, .int .i64 0, .int .i64 0, .int .i64 0, .int .i64 0], .int .i64 4]) (by simp [results, Try.results13, go_sem, ↓IntWalk.iteOmega]) rfl ⟨rfl, by with_reducible repeat (first | exact Below.refl _ _ | apply ba | apply bp | apply bd | apply bn)⟩

set_option maxHeartbeats 1000000 in
theorem of_some (g off n cap : Nat) (p : Nat → V3) (w : World) (h0 : 0 < n) (hn : n ≤ 4096) (hl : Lies w g off n p) :
    Calls Try.prog 13 #[.slice (some ⟨g, off, none⟩) n cap] w fun e w' => e = .returned (ofV p n) ∧ Below w.heap.size w w' := by
  have hg := hl.1
  have hc := hl.2
  have i0 : ¬ (n : Int) < 1 := by omega
  have i1 : ¬ (4096 : Int) < (n : Int) := by omega
  go_enter Try.func13, Try.ntmps13
  go_wp2
  go_loopw [17] (fun i wr => ∃ k : Nat, k ≤ n ∧ i = .int .i64 k ∧ seen p k = true ∧ ∃ x, wr = plus (w.alloc (.cells #[.int .i64 0, .int .i64 0, .int .i64 0, .int .i64 0, .int .i64 0, .int .i64 0] 25)) x) (fun i _ => n - (intOf i).toNat)
  case atStart => exact ⟨0, Nat.zero_le _, rfl, rfl, (by with_reducible repeat (first | exact ex_refl _ | apply ex_alloc | apply ex_plus | apply ex_drew | apply ex_drewN))⟩
  case round =>
    obtain ⟨k, hk, rfl, hs, x, rfl⟩ := hrel
    by_cases hkl : k < n
    · obtain ⟨y1, y2, y3⟩ := hc k hkl
      have ik : (k : Int) < (n : Int) := by omega
      cases hv : all3 (p k) 32768
      · have e := chkPt_no hv
        go_wp2_with (go_at_call 15; refine (plus_post (bcheck_calls _ _ _ _ _ _ _)).mono ?_; rintro e w' ⟨rfl, nx, rfl⟩)
        exact bodyPost_ret (v := .tuple #[.agg #[.int .i64 0, .int .i64 0, .int .i64 0, .int .i64 0, .int .i64 0, .int .i64 0], .int .i64 20]) (by simp [results, Try.results13, go_sem, ↓IntWalk.iteOmega]) rfl ⟨by rw [ofV_bad h0 hn hkl hv], by with_reducible repeat (first | exact Below.refl _ _ | apply ba | apply bp | apply bd | apply bn)⟩
      · have e := chkPt_yes hv
        go_wp2_with (go_at_call 15; refine (plus_post (bcheck_calls _ _ _ _ _ _ _)).mono ?_; rintro e w' ⟨rfl, nx, rfl⟩)
        go_roundw
        case rel => exact ⟨k + 1, by omega, by go_num, by simp [seen, hs, hv], (by with_reducible repeat (first | exact ex_refl _ | apply ex_alloc | apply ex_plus | apply ex_drew | apply ex_drewN))⟩
        case measure => simp [intOf]; omega
    · obtain rfl : k = n := by omega
      go_wp2_with (go_at_call 27; refine (plus_post (least_calls _ _ _ _ p _ h0 (by omega) (hl.ex (by with_reducible repeat (first | exact ex_refl _ | apply ex_alloc | apply ex_plus | apply ex_drew | apply ex_drewN))))).mono ?_; rintro e w' ⟨rfl, nx, rfl⟩)
      exact bodyPost_ret (v := .tuple #[.agg #[.int .i64 (lst p k).lo.x, .int .i64 (lst p k).lo.y, .int .i64 (lst p k).lo.z, .int .i64 (lst p k).hi.x, .int .i64 (lst p k).hi.y, .int .i64 (lst p k).hi.z], .int .i64 0]) (by simp [results, Try.results13, go_sem, ↓IntWalk.iteOmega]) rfl ⟨by rw [ofV_good h0 hn hs], by with_reducible repeat (first | exact Below.refl _ _ | apply ba | apply bp | apply bd | apply bn)⟩

end Go.Proofs.Ytondjoilcpcneaa
