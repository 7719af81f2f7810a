/- What dioramalaw07.whose gives. -/
import Derived.Test.YthcplebmffbmpaaProg
import Derived.Test.YthcplebmffbmpaaStWin
import Derived.Test.YthcplebmffbmpaaStOpen
import Derived.Test.YthcplebmffbmpaaTail
import Derived.Test.YthcplebmffbmpaaFresh
namespace Go.Proofs.Ythcplebmffbmpaa
open Go.RowKit Go.ChangeShapes Go.WideShapes Go.ChangeAt
set_option linter.unusedSimpArgs false
set_option linter.unusedVariables false
attribute [local go_sem] plus_size plus_drew dn_set dn_alloc dn_plus plus_dn cell_plus frozen_plus set_plus cell_alloc frozen_alloc set_alloc

set_option maxRecDepth 100000 in
set_option maxHeartbeats 4000000 in
theorem whose0_calls (ao : Option Addr) (n cap : Nat) (l : List Sy) (w : World) (hn : n ≤ 1000) (hl : Lay fSy w ao n l) (hS : Said (y0 l) n) :
    Calls Try.prog 21 #[.slice ao n cap, .int .i64 0] w fun e w' => e = .returned (.int .i64 (win (y0 l) n).1) ∧ Below w.heap.size w w' := by
  have hlen := hl.len
  obtain ⟨f, hf0⟩ : ∃ f, f = y0 l := ⟨_, rfl⟩
  have hfa : ∀ j, (nth sy0 l j).s0 = f j := fun j => by rw [hf0]; rfl
  rw [← hf0] at hS ⊢
  clear hf0
  go_enter Try.func21, Try.ntmps21
  go_wp2
  go_loopw [5, 6] (fun fv iv wr => ∃ (k st : Nat) (fr : Int), k ≤ n ∧ iv = .int .i64 k ∧ fv = .int .i64 fr ∧ Free f k fr st ∧ ∃ x, wr = plus w x) (fun _ iv _ => n - (intOf iv).toNat)
  case atStart => exact ⟨0, 0, -1, Nat.zero_le _, rfl, rfl, free_nil f, (by with_reducible repeat (first | exact ex_refl _ | exact ex_more | apply ex_alloc | apply ex_plus | apply ex_drew | apply ex_drewN))⟩
  case round =>
    obtain ⟨k, st, fr, hk, rfl, rfl, hF, x, rfl⟩ := hrel
    by_cases hkl : k < n
    · have ik : (k : Int) < (n : Int) := by omega
      obtain ⟨g, off, rfl, hg, hc⟩ := hl.some (by omega)
      obtain ⟨c0, c1, c2, c3, c4, _, _, _, _, _, _, _, _, _⟩ := cellSy hlen hc hkl
      rw [hfa] at c0
      clear hc hl hlen hfa
      by_cases h4 : 4 ≤ f k
      · have hF' := hF.take h4
        clear hF
        go_wp2
        go_roundw
        case rel => exact ⟨k + 1, k + 1, k, by omega, by go_num, rfl, hF', (by with_reducible repeat (first | exact ex_refl _ | exact ex_more | apply ex_alloc | apply ex_plus | apply ex_drew | apply ex_drewN))⟩
        case measure => simp [intOf]; omega
      · have hF' := hF.leave (by omega)
        clear hF
        go_wp2
        go_roundw
        case rel => exact ⟨k + 1, st, fr, by omega, by go_num, rfl, hF', (by with_reducible repeat (first | exact ex_refl _ | exact ex_more | apply ex_alloc | apply ex_plus | apply ex_drew | apply ex_drewN))⟩
        case measure => simp [intOf]; omega
    · have ik : ¬ (k : Int) < (n : Int) := by omega
      obtain rfl : k = n := by omega
      clear hkl
      have hst := hF.eq
      have hle := hF.le
      by_cases h0 : 0 ≤ fr
      · obtain ⟨q, rfl⟩ : ∃ q : Nat, fr = q := ⟨fr.toNat, by omega⟩
        obtain rfl : st = q + 1 := by omega
        obtain ⟨g, off, rfl, hg, hc⟩ := hl.some (by omega)
        obtain ⟨d0, d1, d2, d3, d4, _, _, _, _, _, _, _, _, _⟩ := cellSy hlen hc (k := q) (by omega)
        rw [hfa] at d0
        have iq : (q : Int) < (k : Int) := by omega
        by_cases h7 : f q = 7
        · have e : (win f k).1 = q := win_over hF h0 h7
          rw [h7] at d0
          clear hc hl hlen hfa hF
          go_wp2
          go_ret
          exact ⟨by first | rfl | (rw [e]; rfl), by with_reducible repeat (first | exact Below.refl _ _ | apply ba | apply bp | apply bd | apply bn)⟩
        · have h7' : 0 ≤ (q : Int) → f (q + 1 - 1) ≠ 7 := fun _ => h7
          have j7 : (f q == 7) = false := by simp [h7]
          go_wp2
          go_loopw [7, 8] (fun lv iv wr => ∃ (m : Nat) (la : Int), m ≤ k ∧ iv = .int .i64 m ∧ lv = .int .i64 la ∧ Last f ((q : Int)) (q + 1) m la ∧ ∃ x, wr = plus w x) (fun _ iv _ => k - (intOf iv).toNat)
          case atStart => exact ⟨q + 1, (q : Int), by omega, by go_num, rfl, last_nil f _ _, (by with_reducible repeat (first | exact ex_refl _ | exact ex_more | apply ex_alloc | apply ex_plus | apply ex_drew | apply ex_drewN))⟩
          case round =>
            obtain ⟨m, la, hm, rfl, rfl, hL, x, rfl⟩ := hrel
            by_cases hml : m < k
            · have im : (m : Int) < (k : Int) := by omega
              obtain ⟨c0, c1, c2, c3, c4, _, _, _, _, _, _, _, _, _⟩ := cellSy hlen hc hml
              rw [hfa] at c0
              by_cases h3 : f m = 3
              · have e := win_three hS hF h7' hL hml h3
                rw [h3] at c0
                clear hc hl hlen hfa hF hL hS
                go_wp2
                go_ret
                exact ⟨by first | rfl | (rw [e]; rfl), by with_reducible repeat (first | exact Below.refl _ _ | apply ba | apply bp | apply bd | apply bn)⟩
              have j3 : (f m == 3) = false := by simp [h3]
              by_cases hp : 0 < f m
              · have hL' := hL.take h3 hp
                clear hL
                go_wp2
                go_roundw
                case rel => exact ⟨m + 1, m, by omega, by go_num, rfl, hL', (by with_reducible repeat (first | exact ex_refl _ | exact ex_more | apply ex_alloc | apply ex_plus | apply ex_drew | apply ex_drewN))⟩
                case measure => simp [intOf]; omega
              · have hL' := hL.leave h3 hp
                clear hL
                go_wp2
                go_roundw
                case rel => exact ⟨m + 1, la, by omega, by go_num, rfl, hL', (by with_reducible repeat (first | exact ex_refl _ | exact ex_more | apply ex_alloc | apply ex_plus | apply ex_drew | apply ex_drewN))⟩
                case measure => simp [intOf]; omega
            · have im : ¬ (m : Int) < (k : Int) := by omega
              obtain rfl : m = k := by omega
              have e := win_last hS hF h7' hL
              clear hF hL hS
              go_wp2
              go_ret
              exact ⟨by first | rfl | (rw [e]; rfl), by with_reducible repeat (first | exact Below.refl _ _ | apply ba | apply bp | apply bd | apply bn)⟩
      · obtain rfl : fr = -1 := by omega
        obtain rfl : st = 0 := by omega
        have h7' : 0 ≤ (-1 : Int) → f (0 - 1) ≠ 7 := fun h => absurd h (by decide)
        go_wp2
        go_loopw [7, 8] (fun lv iv wr => ∃ (m : Nat) (la : Int), m ≤ k ∧ iv = .int .i64 m ∧ lv = .int .i64 la ∧ Last f (-1) (0) m la ∧ ∃ x, wr = plus w x) (fun _ iv _ => k - (intOf iv).toNat)
        case atStart => exact ⟨0, -1, by omega, by go_num, rfl, last_nil f _ _, (by with_reducible repeat (first | exact ex_refl _ | exact ex_more | apply ex_alloc | apply ex_plus | apply ex_drew | apply ex_drewN))⟩
        case round =>
          obtain ⟨m, la, hm, rfl, rfl, hL, x, rfl⟩ := hrel
          by_cases hml : m < k
          · have im : (m : Int) < (k : Int) := by omega
            obtain ⟨g, off, rfl, hg, hc⟩ := hl.some (by omega)
            obtain ⟨c0, c1, c2, c3, c4, _, _, _, _, _, _, _, _, _⟩ := cellSy hlen hc hml
            rw [hfa] at c0
            by_cases h3 : f m = 3
            · have e := win_three hS hF h7' hL hml h3
              rw [h3] at c0
              clear hc hl hlen hfa hF hL hS
              go_wp2
              go_ret
              exact ⟨by first | rfl | (rw [e]; rfl), by with_reducible repeat (first | exact Below.refl _ _ | apply ba | apply bp | apply bd | apply bn)⟩
            have j3 : (f m == 3) = false := by simp [h3]
            by_cases hp : 0 < f m
            · have hL' := hL.take h3 hp
              clear hL
              go_wp2
              go_roundw
              case rel => exact ⟨m + 1, m, by omega, by go_num, rfl, hL', (by with_reducible repeat (first | exact ex_refl _ | exact ex_more | apply ex_alloc | apply ex_plus | apply ex_drew | apply ex_drewN))⟩
              case measure => simp [intOf]; omega
            · have hL' := hL.leave h3 hp
              clear hL
              go_wp2
              go_roundw
              case rel => exact ⟨m + 1, la, by omega, by go_num, rfl, hL', (by with_reducible repeat (first | exact ex_refl _ | exact ex_more | apply ex_alloc | apply ex_plus | apply ex_drew | apply ex_drewN))⟩
              case measure => simp [intOf]; omega
          · have im : ¬ (m : Int) < (k : Int) := by omega
            obtain rfl : m = k := by omega
            have e := win_last hS hF h7' hL
            clear hF hL hS
            go_wp2
            go_ret
            exact ⟨by first | rfl | (rw [e]; rfl), by with_reducible repeat (first | exact Below.refl _ _ | apply ba | apply bp | apply bd | apply bn)⟩

set_option maxRecDepth 100000 in
set_option maxHeartbeats 4000000 in
theorem whose1_calls (ao : Option Addr) (n cap : Nat) (l : List Sy) (w : World) (hn : n ≤ 1000) (hl : Lay fSy w ao n l) (hS : Said (y1 l) n) :
    Calls Try.prog 21 #[.slice ao n cap, .int .i64 1] w fun e w' => e = .returned (.int .i64 (win (y1 l) n).1) ∧ Below w.heap.size w w' := by
  have hlen := hl.len
  obtain ⟨f, hf0⟩ : ∃ f, f = y1 l := ⟨_, rfl⟩
  have hfa : ∀ j, (nth sy0 l j).s1 = f j := fun j => by rw [hf0]; rfl
  rw [← hf0] at hS ⊢
  clear hf0
  go_enter Try.func21, Try.ntmps21
  go_wp2
  go_loopw [5, 6] (fun fv iv wr => ∃ (k st : Nat) (fr : Int), k ≤ n ∧ iv = .int .i64 k ∧ fv = .int .i64 fr ∧ Free f k fr st ∧ ∃ x, wr = plus w x) (fun _ iv _ => n - (intOf iv).toNat)
  case atStart => exact ⟨0, 0, -1, Nat.zero_le _, rfl, rfl, free_nil f, (by with_reducible repeat (first | exact ex_refl _ | exact ex_more | apply ex_alloc | apply ex_plus | apply ex_drew | apply ex_drewN))⟩
  case round =>
    obtain ⟨k, st, fr, hk, rfl, rfl, hF, x, rfl⟩ := hrel
    by_cases hkl : k < n
    · have ik : (k : Int) < (n : Int) := by omega
      obtain ⟨g, off, rfl, hg, hc⟩ := hl.some (by omega)
      obtain ⟨c0, c1, c2, c3, c4, _, _, _, _, _, _, _, _, _⟩ := cellSy hlen hc hkl
      rw [hfa] at c1
      clear hc hl hlen hfa
      by_cases h4 : 4 ≤ f k
      · have hF' := hF.take h4
        clear hF
        go_wp2
        go_roundw
        case rel => exact ⟨k + 1, k + 1, k, by omega, by go_num, rfl, hF', (by with_reducible repeat (first | exact ex_refl _ | exact ex_more | apply ex_alloc | apply ex_plus | apply ex_drew | apply ex_drewN))⟩
        case measure => simp [intOf]; omega
      · have hF' := hF.leave (by omega)
        clear hF
        go_wp2
        go_roundw
        case rel => exact ⟨k + 1, st, fr, by omega, by go_num, rfl, hF', (by with_reducible repeat (first | exact ex_refl _ | exact ex_more | apply ex_alloc | apply ex_plus | apply ex_drew | apply ex_drewN))⟩
        case measure => simp [intOf]; omega
    · have ik : ¬ (k : Int) < (n : Int) := by omega
      obtain rfl : k = n := by omega
      clear hkl
      have hst := hF.eq
      have hle := hF.le
      by_cases h0 : 0 ≤ fr
      · obtain ⟨q, rfl⟩ : ∃ q : Nat, fr = q := ⟨fr.toNat, by omega⟩
        obtain rfl : st = q + 1 := by omega
        obtain ⟨g, off, rfl, hg, hc⟩ := hl.some (by omega)
        obtain ⟨d0, d1, d2, d3, d4, _, _, _, _, _, _, _, _, _⟩ := cellSy hlen hc (k := q) (by omega)
        rw [hfa] at d1
        have iq : (q : Int) < (k : Int) := by omega
        by_cases h7 : f q = 7
        · have e : (win f k).1 = q := win_over hF h0 h7
          rw [h7] at d1
          clear hc hl hlen hfa hF
          go_wp2
          go_ret
          exact ⟨by first | rfl | (rw [e]; rfl), by with_reducible repeat (first | exact Below.refl _ _ | apply ba | apply bp | apply bd | apply bn)⟩
        · have h7' : 0 ≤ (q : Int) → f (q + 1 - 1) ≠ 7 := fun _ => h7
          have j7 : (f q == 7) = false := by simp [h7]
          go_wp2
          go_loopw [7, 8] (fun lv iv wr => ∃ (m : Nat) (la : Int), m ≤ k ∧ iv = .int .i64 m ∧ lv = .int .i64 la ∧ Last f ((q : Int)) (q + 1) m la ∧ ∃ x, wr = plus w x) (fun _ iv _ => k - (intOf iv).toNat)
          case atStart => exact ⟨q + 1, (q : Int), by omega, by go_num, rfl, last_nil f _ _, (by with_reducible repeat (first | exact ex_refl _ | exact ex_more | apply ex_alloc | apply ex_plus | apply ex_drew | apply ex_drewN))⟩
          case round =>
            obtain ⟨m, la, hm, rfl, rfl, hL, x, rfl⟩ := hrel
            by_cases hml : m < k
            · have im : (m : Int) < (k : Int) := by omega
              obtain ⟨c0, c1, c2, c3, c4, _, _, _, _, _, _, _, _, _⟩ := cellSy hlen hc hml
              rw [hfa] at c1
              by_cases h3 : f m = 3
              · have e := win_three hS hF h7' hL hml h3
                rw [h3] at c1
                clear hc hl hlen hfa hF hL hS
                go_wp2
                go_ret
                exact ⟨by first | rfl | (rw [e]; rfl), by with_reducible repeat (first | exact Below.refl _ _ | apply ba | apply bp | apply bd | apply bn)⟩
              have j3 : (f m == 3) = false := by simp [h3]
              by_cases hp : 0 < f m
              · have hL' := hL.take h3 hp
                clear hL
                go_wp2
                go_roundw
                case rel => exact ⟨m + 1, m, by omega, by go_num, rfl, hL', (by with_reducible repeat (first | exact ex_refl _ | exact ex_more | apply ex_alloc | apply ex_plus | apply ex_drew | apply ex_drewN))⟩
                case measure => simp [intOf]; omega
              · have hL' := hL.leave h3 hp
                clear hL
                go_wp2
                go_roundw
                case rel => exact ⟨m + 1, la, by omega, by go_num, rfl, hL', (by with_reducible repeat (first | exact ex_refl _ | exact ex_more | apply ex_alloc | apply ex_plus | apply ex_drew | apply ex_drewN))⟩
                case measure => simp [intOf]; omega
            · have im : ¬ (m : Int) < (k : Int) := by omega
              obtain rfl : m = k := by omega
              have e := win_last hS hF h7' hL
              clear hF hL hS
              go_wp2
              go_ret
              exact ⟨by first | rfl | (rw [e]; rfl), by with_reducible repeat (first | exact Below.refl _ _ | apply ba | apply bp | apply bd | apply bn)⟩
      · obtain rfl : fr = -1 := by omega
        obtain rfl : st = 0 := by omega
        have h7' : 0 ≤ (-1 : Int) → f (0 - 1) ≠ 7 := fun h => absurd h (by decide)
        go_wp2
        go_loopw [7, 8] (fun lv iv wr => ∃ (m : Nat) (la : Int), m ≤ k ∧ iv = .int .i64 m ∧ lv = .int .i64 la ∧ Last f (-1) (0) m la ∧ ∃ x, wr = plus w x) (fun _ iv _ => k - (intOf iv).toNat)
        case atStart => exact ⟨0, -1, by omega, by go_num, rfl, last_nil f _ _, (by with_reducible repeat (first | exact ex_refl _ | exact ex_more | apply ex_alloc | apply ex_plus | apply ex_drew | apply ex_drewN))⟩
        case round =>
          obtain ⟨m, la, hm, rfl, rfl, hL, x, rfl⟩ := hrel
          by_cases hml : m < k
          · have im : (m : Int) < (k : Int) := by omega
            obtain ⟨g, off, rfl, hg, hc⟩ := hl.some (by omega)
            obtain ⟨c0, c1, c2, c3, c4, _, _, _, _, _, _, _, _, _⟩ := cellSy hlen hc hml
            rw [hfa] at c1
            by_cases h3 : f m = 3
            · have e := win_three hS hF h7' hL hml h3
              rw [h3] at c1
              clear hc hl hlen hfa hF hL hS
              go_wp2
              go_ret
              exact ⟨by first | rfl | (rw [e]; rfl), by with_reducible repeat (first | exact Below.refl _ _ | apply ba | apply bp | apply bd | apply bn)⟩
            have j3 : (f m == 3) = false := by simp [h3]
            by_cases hp : 0 < f m
            · have hL' := hL.take h3 hp
              clear hL
              go_wp2
              go_roundw
              case rel => exact ⟨m + 1, m, by omega, by go_num, rfl, hL', (by with_reducible repeat (first | exact ex_refl _ | exact ex_more | apply ex_alloc | apply ex_plus | apply ex_drew | apply ex_drewN))⟩
              case measure => simp [intOf]; omega
            · have hL' := hL.leave h3 hp
              clear hL
              go_wp2
              go_roundw
              case rel => exact ⟨m + 1, la, by omega, by go_num, rfl, hL', (by with_reducible repeat (first | exact ex_refl _ | exact ex_more | apply ex_alloc | apply ex_plus | apply ex_drew | apply ex_drewN))⟩
              case measure => simp [intOf]; omega
          · have im : ¬ (m : Int) < (k : Int) := by omega
            obtain rfl : m = k := by omega
            have e := win_last hS hF h7' hL
            clear hF hL hS
            go_wp2
            go_ret
            exact ⟨by first | rfl | (rw [e]; rfl), by with_reducible repeat (first | exact Below.refl _ _ | apply ba | apply bp | apply bd | apply bn)⟩

set_option maxRecDepth 100000 in
set_option maxHeartbeats 4000000 in
theorem whose2_calls (ao : Option Addr) (n cap : Nat) (l : List Sy) (w : World) (hn : n ≤ 1000) (hl : Lay fSy w ao n l) (hS : Said (y2 l) n) :
    Calls Try.prog 21 #[.slice ao n cap, .int .i64 2] w fun e w' => e = .returned (.int .i64 (win (y2 l) n).1) ∧ Below w.heap.size w w' := by
  have hlen := hl.len
  obtain ⟨f, hf0⟩ : ∃ f, f = y2 l := ⟨_, rfl⟩
  have hfa : ∀ j, (nth sy0 l j).s2 = f j := fun j => by rw [hf0]; rfl
  rw [← hf0] at hS ⊢
  clear hf0
  go_enter Try.func21, Try.ntmps21
  go_wp2
  go_loopw [5, 6] (fun fv iv wr => ∃ (k st : Nat) (fr : Int), k ≤ n ∧ iv = .int .i64 k ∧ fv = .int .i64 fr ∧ Free f k fr st ∧ ∃ x, wr = plus w x) (fun _ iv _ => n - (intOf iv).toNat)
  case atStart => exact ⟨0, 0, -1, Nat.zero_le _, rfl, rfl, free_nil f, (by with_reducible repeat (first | exact ex_refl _ | exact ex_more | apply ex_alloc | apply ex_plus | apply ex_drew | apply ex_drewN))⟩
  case round =>
    obtain ⟨k, st, fr, hk, rfl, rfl, hF, x, rfl⟩ := hrel
    by_cases hkl : k < n
    · have ik : (k : Int) < (n : Int) := by omega
      obtain ⟨g, off, rfl, hg, hc⟩ := hl.some (by omega)
      obtain ⟨c0, c1, c2, c3, c4, _, _, _, _, _, _, _, _, _⟩ := cellSy hlen hc hkl
      rw [hfa] at c2
      clear hc hl hlen hfa
      by_cases h4 : 4 ≤ f k
      · have hF' := hF.take h4
        clear hF
        go_wp2
        go_roundw
        case rel => exact ⟨k + 1, k + 1, k, by omega, by go_num, rfl, hF', (by with_reducible repeat (first | exact ex_refl _ | exact ex_more | apply ex_alloc | apply ex_plus | apply ex_drew | apply ex_drewN))⟩
        case measure => simp [intOf]; omega
      · have hF' := hF.leave (by omega)
        clear hF
        go_wp2
        go_roundw
        case rel => exact ⟨k + 1, st, fr, by omega, by go_num, rfl, hF', (by with_reducible repeat (first | exact ex_refl _ | exact ex_more | apply ex_alloc | apply ex_plus | apply ex_drew | apply ex_drewN))⟩
        case measure => simp [intOf]; omega
    · have ik : ¬ (k : Int) < (n : Int) := by omega
      obtain rfl : k = n := by omega
      clear hkl
      have hst := hF.eq
      have hle := hF.le
      by_cases h0 : 0 ≤ fr
      · obtain ⟨q, rfl⟩ : ∃ q : Nat, fr = q := ⟨fr.toNat, by omega⟩
        obtain rfl : st = q + 1 := by omega
        obtain ⟨g, off, rfl, hg, hc⟩ := hl.some (by omega)
        obtain ⟨d0, d1, d2, d3, d4, _, _, _, _, _, _, _, _, _⟩ := cellSy hlen hc (k := q) (by omega)
        rw [hfa] at d2
        have iq : (q : Int) < (k : Int) := by omega
        by_cases h7 : f q = 7
        · have e : (win f k).1 = q := win_over hF h0 h7
          rw [h7] at d2
          clear hc hl hlen hfa hF
          go_wp2
          go_ret
          exact ⟨by first | rfl | (rw [e]; rfl), by with_reducible repeat (first | exact Below.refl _ _ | apply ba | apply bp | apply bd | apply bn)⟩
        · have h7' : 0 ≤ (q : Int) → f (q + 1 - 1) ≠ 7 := fun _ => h7
          have j7 : (f q == 7) = false := by simp [h7]
          go_wp2
          go_loopw [7, 8] (fun lv iv wr => ∃ (m : Nat) (la : Int), m ≤ k ∧ iv = .int .i64 m ∧ lv = .int .i64 la ∧ Last f ((q : Int)) (q + 1) m la ∧ ∃ x, wr = plus w x) (fun _ iv _ => k - (intOf iv).toNat)
          case atStart => exact ⟨q + 1, (q : Int), by omega, by go_num, rfl, last_nil f _ _, (by with_reducible repeat (first | exact ex_refl _ | exact ex_more | apply ex_alloc | apply ex_plus | apply ex_drew | apply ex_drewN))⟩
          case round =>
            obtain ⟨m, la, hm, rfl, rfl, hL, x, rfl⟩ := hrel
            by_cases hml : m < k
            · have im : (m : Int) < (k : Int) := by omega
              obtain ⟨c0, c1, c2, c3, c4, _, _, _, _, _, _, _, _, _⟩ := cellSy hlen hc hml
              rw [hfa] at c2
              by_cases h3 : f m = 3
              · have e := win_three hS hF h7' hL hml h3
                rw [h3] at c2
                clear hc hl hlen hfa hF hL hS
                go_wp2
                go_ret
                exact ⟨by first | rfl | (rw [e]; rfl), by with_reducible repeat (first | exact Below.refl _ _ | apply ba | apply bp | apply bd | apply bn)⟩
              have j3 : (f m == 3) = false := by simp [h3]
              by_cases hp : 0 < f m
              · have hL' := hL.take h3 hp
                clear hL
                go_wp2
                go_roundw
                case rel => exact ⟨m + 1, m, by omega, by go_num, rfl, hL', (by with_reducible repeat (first | exact ex_refl _ | exact ex_more | apply ex_alloc | apply ex_plus | apply ex_drew | apply ex_drewN))⟩
                case measure => simp [intOf]; omega
              · have hL' := hL.leave h3 hp
                clear hL
                go_wp2
                go_roundw
                case rel => exact ⟨m + 1, la, by omega, by go_num, rfl, hL', (by with_reducible repeat (first | exact ex_refl _ | exact ex_more | apply ex_alloc | apply ex_plus | apply ex_drew | apply ex_drewN))⟩
                case measure => simp [intOf]; omega
            · have im : ¬ (m : Int) < (k : Int) := by omega
              obtain rfl : m = k := by omega
              have e := win_last hS hF h7' hL
              clear hF hL hS
              go_wp2
              go_ret
              exact ⟨by first | rfl | (rw [e]; rfl), by with_reducible repeat (first | exact Below.refl _ _ | apply ba | apply bp | apply bd | apply bn)⟩
      · obtain rfl : fr = -1 := by omega
        obtain rfl : st = 0 := by omega
        have h7' : 0 ≤ (-1 : Int) → f (0 - 1) ≠ 7 := fun h => absurd h (by decide)
        go_wp2
        go_loopw [7, 8] (fun lv iv wr => ∃ (m : Nat) (la : Int), m ≤ k ∧ iv = .int .i64 m ∧ lv = .int .i64 la ∧ Last f (-1) (0) m la ∧ ∃ x, wr = plus w x) (fun _ iv _ => k - (intOf iv).toNat)
        case atStart => exact ⟨0, -1, by omega, by go_num, rfl, last_nil f _ _, (by with_reducible repeat (first | exact ex_refl _ | exact ex_more | apply ex_alloc | apply ex_plus | apply ex_drew | apply ex_drewN))⟩
        case round =>
          obtain ⟨m, la, hm, rfl, rfl, hL, x, rfl⟩ := hrel
          by_cases hml : m < k
          · have im : (m : Int) < (k : Int) := by omega
            obtain ⟨g, off, rfl, hg, hc⟩ := hl.some (by omega)
            obtain ⟨c0, c1, c2, c3, c4, _, _, _, _, _, _, _, _, _⟩ := cellSy hlen hc hml
            rw [hfa] at c2
            by_cases h3 : f m = 3
            · have e := win_three hS hF h7' hL hml h3
              rw [h3] at c2
              clear hc hl hlen hfa hF hL hS
              go_wp2
              go_ret
              exact ⟨by first | rfl | (rw [e]; rfl), by with_reducible repeat (first | exact Below.refl _ _ | apply ba | apply bp | apply bd | apply bn)⟩
            have j3 : (f m == 3) = false := by simp [h3]
            by_cases hp : 0 < f m
            · have hL' := hL.take h3 hp
              clear hL
              go_wp2
              go_roundw
              case rel => exact ⟨m + 1, m, by omega, by go_num, rfl, hL', (by with_reducible repeat (first | exact ex_refl _ | exact ex_more | apply ex_alloc | apply ex_plus | apply ex_drew | apply ex_drewN))⟩
              case measure => simp [intOf]; omega
            · have hL' := hL.leave h3 hp
              clear hL
              go_wp2
              go_roundw
              case rel => exact ⟨m + 1, la, by omega, by go_num, rfl, hL', (by with_reducible repeat (first | exact ex_refl _ | exact ex_more | apply ex_alloc | apply ex_plus | apply ex_drew | apply ex_drewN))⟩
              case measure => simp [intOf]; omega
          · have im : ¬ (m : Int) < (k : Int) := by omega
            obtain rfl : m = k := by omega
            have e := win_last hS hF h7' hL
            clear hF hL hS
            go_wp2
            go_ret
            exact ⟨by first | rfl | (rw [e]; rfl), by with_reducible repeat (first | exact Below.refl _ _ | apply ba | apply bp | apply bd | apply bn)⟩

set_option maxRecDepth 100000 in
set_option maxHeartbeats 4000000 in
theorem whose3_calls (ao : Option Addr) (n cap : Nat) (l : List Sy) (w : World) (hn : n ≤ 1000) (hl : Lay fSy w ao n l) (hS : Said (y3 l) n) :
    Calls Try.prog 21 #[.slice ao n cap, .int .i64 3] w fun e w' => e = .returned (.int .i64 (win (y3 l) n).1) ∧ Below w.heap.size w w' := by
  have hlen := hl.len
  obtain ⟨f, hf0⟩ : ∃ f, f = y3 l := ⟨_, rfl⟩
  have hfa : ∀ j, (nth sy0 l j).s3 = f j := fun j => by rw [hf0]; rfl
  rw [← hf0] at hS ⊢
  clear hf0
  go_enter Try.func21, Try.ntmps21
  go_wp2
  go_loopw [5, 6] (fun fv iv wr => ∃ (k st : Nat) (fr : Int), k ≤ n ∧ iv = .int .i64 k ∧ fv = .int .i64 fr ∧ Free f k fr st ∧ ∃ x, wr = plus w x) (fun _ iv _ => n - (intOf iv).toNat)
  case atStart => exact ⟨0, 0, -1, Nat.zero_le _, rfl, rfl, free_nil f, (by with_reducible repeat (first | exact ex_refl _ | exact ex_more | apply ex_alloc | apply ex_plus | apply ex_drew | apply ex_drewN))⟩
  case round =>
    obtain ⟨k, st, fr, hk, rfl, rfl, hF, x, rfl⟩ := hrel
    by_cases hkl : k < n
    · have ik : (k : Int) < (n : Int) := by omega
      obtain ⟨g, off, rfl, hg, hc⟩ := hl.some (by omega)
      obtain ⟨c0, c1, c2, c3, c4, _, _, _, _, _, _, _, _, _⟩ := cellSy hlen hc hkl
      rw [hfa] at c3
      clear hc hl hlen hfa
      by_cases h4 : 4 ≤ f k
      · have hF' := hF.take h4
        clear hF
        go_wp2
        go_roundw
        case rel => exact ⟨k + 1, k + 1, k, by omega, by go_num, rfl, hF', (by with_reducible repeat (first | exact ex_refl _ | exact ex_more | apply ex_alloc | apply ex_plus | apply ex_drew | apply ex_drewN))⟩
        case measure => simp [intOf]; omega
      · have hF' := hF.leave (by omega)
        clear hF
        go_wp2
        go_roundw
        case rel => exact ⟨k + 1, st, fr, by omega, by go_num, rfl, hF', (by with_reducible repeat (first | exact ex_refl _ | exact ex_more | apply ex_alloc | apply ex_plus | apply ex_drew | apply ex_drewN))⟩
        case measure => simp [intOf]; omega
    · have ik : ¬ (k : Int) < (n : Int) := by omega
      obtain rfl : k = n := by omega
      clear hkl
      have hst := hF.eq
      have hle := hF.le
      by_cases h0 : 0 ≤ fr
      · obtain ⟨q, rfl⟩ : ∃ q : Nat, fr = q := ⟨fr.toNat, by omega⟩
        obtain rfl : st = q + 1 := by omega
        obtain ⟨g, off, rfl, hg, hc⟩ := hl.some (by omega)
        obtain ⟨d0, d1, d2, d3, d4, _, _, _, _, _, _, _, _, _⟩ := cellSy hlen hc (k := q) (by omega)
        rw [hfa] at d3
        have iq : (q : Int) < (k : Int) := by omega
        by_cases h7 : f q = 7
        · have e : (win f k).1 = q := win_over hF h0 h7
          rw [h7] at d3
          clear hc hl hlen hfa hF
          go_wp2
          go_ret
          exact ⟨by first | rfl | (rw [e]; rfl), by with_reducible repeat (first | exact Below.refl _ _ | apply ba | apply bp | apply bd | apply bn)⟩
        · have h7' : 0 ≤ (q : Int) → f (q + 1 - 1) ≠ 7 := fun _ => h7
          have j7 : (f q == 7) = false := by simp [h7]
          go_wp2
          go_loopw [7, 8] (fun lv iv wr => ∃ (m : Nat) (la : Int), m ≤ k ∧ iv = .int .i64 m ∧ lv = .int .i64 la ∧ Last f ((q : Int)) (q + 1) m la ∧ ∃ x, wr = plus w x) (fun _ iv _ => k - (intOf iv).toNat)
          case atStart => exact ⟨q + 1, (q : Int), by omega, by go_num, rfl, last_nil f _ _, (by with_reducible repeat (first | exact ex_refl _ | exact ex_more | apply ex_alloc | apply ex_plus | apply ex_drew | apply ex_drewN))⟩
          case round =>
            obtain ⟨m, la, hm, rfl, rfl, hL, x, rfl⟩ := hrel
            by_cases hml : m < k
            · have im : (m : Int) < (k : Int) := by omega
              obtain ⟨c0, c1, c2, c3, c4, _, _, _, _, _, _, _, _, _⟩ := cellSy hlen hc hml
              rw [hfa] at c3
              by_cases h3 : f m = 3
              · have e := win_three hS hF h7' hL hml h3
                rw [h3] at c3
                clear hc hl hlen hfa hF hL hS
                go_wp2
                go_ret
                exact ⟨by first | rfl | (rw [e]; rfl), by with_reducible repeat (first | exact Below.refl _ _ | apply ba | apply bp | apply bd | apply bn)⟩
              have j3 : (f m == 3) = false := by simp [h3]
              by_cases hp : 0 < f m
              · have hL' := hL.take h3 hp
                clear hL
                go_wp2
                go_roundw
                case rel => exact ⟨m + 1, m, by omega, by go_num, rfl, hL', (by with_reducible repeat (first | exact ex_refl _ | exact ex_more | apply ex_alloc | apply ex_plus | apply ex_drew | apply ex_drewN))⟩
                case measure => simp [intOf]; omega
              · have hL' := hL.leave h3 hp
                clear hL
                go_wp2
                go_roundw
                case rel => exact ⟨m + 1, la, by omega, by go_num, rfl, hL', (by with_reducible repeat (first | exact ex_refl _ | exact ex_more | apply ex_alloc | apply ex_plus | apply ex_drew | apply ex_drewN))⟩
                case measure => simp [intOf]; omega
            · have im : ¬ (m : Int) < (k : Int) := by omega
              obtain rfl : m = k := by omega
              have e := win_last hS hF h7' hL
              clear hF hL hS
              go_wp2
              go_ret
              exact ⟨by first | rfl | (rw [e]; rfl), by with_reducible repeat (first | exact Below.refl _ _ | apply ba | apply bp | apply bd | apply bn)⟩
      · obtain rfl : fr = -1 := by omega
        obtain rfl : st = 0 := by omega
        have h7' : 0 ≤ (-1 : Int) → f (0 - 1) ≠ 7 := fun h => absurd h (by decide)
        go_wp2
        go_loopw [7, 8] (fun lv iv wr => ∃ (m : Nat) (la : Int), m ≤ k ∧ iv = .int .i64 m ∧ lv = .int .i64 la ∧ Last f (-1) (0) m la ∧ ∃ x, wr = plus w x) (fun _ iv _ => k - (intOf iv).toNat)
        case atStart => exact ⟨0, -1, by omega, by go_num, rfl, last_nil f _ _, (by with_reducible repeat (first | exact ex_refl _ | exact ex_more | apply ex_alloc | apply ex_plus | apply ex_drew | apply ex_drewN))⟩
        case round =>
          obtain ⟨m, la, hm, rfl, rfl, hL, x, rfl⟩ := hrel
          by_cases hml : m < k
          · have im : (m : Int) < (k : Int) := by omega
            obtain ⟨g, off, rfl, hg, hc⟩ := hl.some (by omega)
            obtain ⟨c0, c1, c2, c3, c4, _, _, _, _, _, _, _, _, _⟩ := cellSy hlen hc hml
            rw [hfa] at c3
            by_cases h3 : f m = 3
            · have e := win_three hS hF h7' hL hml h3
              rw [h3] at c3
              clear hc hl hlen hfa hF hL hS
              go_wp2
              go_ret
              exact ⟨by first | rfl | (rw [e]; rfl), by with_reducible repeat (first | exact Below.refl _ _ | apply ba | apply bp | apply bd | apply bn)⟩
            have j3 : (f m == 3) = false := by simp [h3]
            by_cases hp : 0 < f m
            · have hL' := hL.take h3 hp
              clear hL
              go_wp2
              go_roundw
              case rel => exact ⟨m + 1, m, by omega, by go_num, rfl, hL', (by with_reducible repeat (first | exact ex_refl _ | exact ex_more | apply ex_alloc | apply ex_plus | apply ex_drew | apply ex_drewN))⟩
              case measure => simp [intOf]; omega
            · have hL' := hL.leave h3 hp
              clear hL
              go_wp2
              go_roundw
              case rel => exact ⟨m + 1, la, by omega, by go_num, rfl, hL', (by with_reducible repeat (first | exact ex_refl _ | exact ex_more | apply ex_alloc | apply ex_plus | apply ex_drew | apply ex_drewN))⟩
              case measure => simp [intOf]; omega
          · have im : ¬ (m : Int) < (k : Int) := by omega
            obtain rfl : m = k := by omega
            have e := win_last hS hF h7' hL
            clear hF hL hS
            go_wp2
            go_ret
            exact ⟨by first | rfl | (rw [e]; rfl), by with_reducible repeat (first | exact Below.refl _ _ | apply ba | apply bp | apply bd | apply bn)⟩

set_option maxRecDepth 100000 in
set_option maxHeartbeats 4000000 in
theorem whose4_calls (ao : Option Addr) (n cap : Nat) (l : List Sy) (w : World) (hn : n ≤ 1000) (hl : Lay fSy w ao n l) (hS : Said (y4 l) n) :
    Calls Try.prog 21 #[.slice ao n cap, .int .i64 4] w fun e w' => e = .returned (.int .i64 (win (y4 l) n).1) ∧ Below w.heap.size w w' := by
  have hlen := hl.len
  obtain ⟨f, hf0⟩ : ∃ f, f = y4 l := ⟨_, rfl⟩
  have hfa : ∀ j, (nth sy0 l j).s4 = f j := fun j => by rw [hf0]; rfl
  rw [← hf0] at hS ⊢
  clear hf0
  go_enter Try.func21, Try.ntmps21
  go_wp2
  go_loopw [5, 6] (fun fv iv wr => ∃ (k st : Nat) (fr : Int), k ≤ n ∧ iv = .int .i64 k ∧ fv = .int .i64 fr ∧ Free f k fr st ∧ ∃ x, wr = plus w x) (fun _ iv _ => n - (intOf iv).toNat)
  case atStart => exact ⟨0, 0, -1, Nat.zero_le _, rfl, rfl, free_nil f, (by with_reducible repeat (first | exact ex_refl _ | exact ex_more | apply ex_alloc | apply ex_plus | apply ex_drew | apply ex_drewN))⟩
  case round =>
    obtain ⟨k, st, fr, hk, rfl, rfl, hF, x, rfl⟩ := hrel
    by_cases hkl : k < n
    · have ik : (k : Int) < (n : Int) := by omega
      obtain ⟨g, off, rfl, hg, hc⟩ := hl.some (by omega)
      obtain ⟨c0, c1, c2, c3, c4, _, _, _, _, _, _, _, _, _⟩ := cellSy hlen hc hkl
      rw [hfa] at c4
      clear hc hl hlen hfa
      by_cases h4 : 4 ≤ f k
      · have hF' := hF.take h4
        clear hF
        go_wp2
        go_roundw
        case rel => exact ⟨k + 1, k + 1, k, by omega, by go_num, rfl, hF', (by with_reducible repeat (first | exact ex_refl _ | exact ex_more | apply ex_alloc | apply ex_plus | apply ex_drew | apply ex_drewN))⟩
        case measure => simp [intOf]; omega
      · have hF' := hF.leave (by omega)
        clear hF
        go_wp2
        go_roundw
        case rel => exact ⟨k + 1, st, fr, by omega, by go_num, rfl, hF', (by with_reducible repeat (first | exact ex_refl _ | exact ex_more | apply ex_alloc | apply ex_plus | apply ex_drew | apply ex_drewN))⟩
        case measure => simp [intOf]; omega
    · have ik : ¬ (k : Int) < (n : Int) := by omega
      obtain rfl : k = n := by omega
      clear hkl
      have hst := hF.eq
      have hle := hF.le
      by_cases h0 : 0 ≤ fr
      · obtain ⟨q, rfl⟩ : ∃ q : Nat, fr = q := ⟨fr.toNat, by omega⟩
        obtain rfl : st = q + 1 := by omega
        obtain ⟨g, off, rfl, hg, hc⟩ := hl.some (by omega)
        obtain ⟨d0, d1, d2, d3, d4, _, _, _, _, _, _, _, _, _⟩ := cellSy hlen hc (k := q) (by omega)
        rw [hfa] at d4
        have iq : (q : Int) < (k : Int) := by omega
        by_cases h7 : f q = 7
        · have e : (win f k).1 = q := win_over hF h0 h7
          rw [h7] at d4
          clear hc hl hlen hfa hF
          go_wp2
          go_ret
          exact ⟨by first | rfl | (rw [e]; rfl), by with_reducible repeat (first | exact Below.refl _ _ | apply ba | apply bp | apply bd | apply bn)⟩
        · have h7' : 0 ≤ (q : Int) → f (q + 1 - 1) ≠ 7 := fun _ => h7
          have j7 : (f q == 7) = false := by simp [h7]
          go_wp2
          go_loopw [7, 8] (fun lv iv wr => ∃ (m : Nat) (la : Int), m ≤ k ∧ iv = .int .i64 m ∧ lv = .int .i64 la ∧ Last f ((q : Int)) (q + 1) m la ∧ ∃ x, wr = plus w x) (fun _ iv _ => k - (intOf iv).toNat)
          case atStart => exact ⟨q + 1, (q : Int), by omega, by go_num, rfl, last_nil f _ _, (by with_reducible repeat (first | exact ex_refl _ | exact ex_more | apply ex_alloc | apply ex_plus | apply ex_drew | apply ex_drewN))⟩
          case round =>
            obtain ⟨m, la, hm, rfl, rfl, hL, x, rfl⟩ := hrel
            by_cases hml : m < k
            · have im : (m : Int) < (k : Int) := by omega
              obtain ⟨c0, c1, c2, c3, c4, _, _, _, _, _, _, _, _, _⟩ := cellSy hlen hc hml
              rw [hfa] at c4
              by_cases h3 : f m = 3
              · have e := win_three hS hF h7' hL hml h3
                rw [h3] at c4
                clear hc hl hlen hfa hF hL hS
                go_wp2
                go_ret
                exact ⟨by first | rfl | (rw [e]; rfl), by with_reducible repeat (first | exact Below.refl _ _ | apply ba | apply bp | apply bd | apply bn)⟩
              have j3 : (f m == 3) = false := by simp [h3]
              by_cases hp : 0 < f m
              · have hL' := hL.take h3 hp
                clear hL
                go_wp2
                go_roundw
                case rel => exact ⟨m + 1, m, by omega, by go_num, rfl, hL', (by with_reducible repeat (first | exact ex_refl _ | exact ex_more | apply ex_alloc | apply ex_plus | apply ex_drew | apply ex_drewN))⟩
                case measure => simp [intOf]; omega
              · have hL' := hL.leave h3 hp
                clear hL
                go_wp2
                go_roundw
                case rel => exact ⟨m + 1, la, by omega, by go_num, rfl, hL', (by with_reducible repeat (first | exact ex_refl _ | exact ex_more | apply ex_alloc | apply ex_plus | apply ex_drew | apply ex_drewN))⟩
                case measure => simp [intOf]; omega
            · have im : ¬ (m : Int) < (k : Int) := by omega
              obtain rfl : m = k := by omega
              have e := win_last hS hF h7' hL
              clear hF hL hS
              go_wp2
              go_ret
              exact ⟨by first | rfl | (rw [e]; rfl), by with_reducible repeat (first | exact Below.refl _ _ | apply ba | apply bp | apply bd | apply bn)⟩
      · obtain rfl : fr = -1 := by omega
        obtain rfl : st = 0 := by omega
        have h7' : 0 ≤ (-1 : Int) → f (0 - 1) ≠ 7 := fun h => absurd h (by decide)
        go_wp2
        go_loopw [7, 8] (fun lv iv wr => ∃ (m : Nat) (la : Int), m ≤ k ∧ iv = .int .i64 m ∧ lv = .int .i64 la ∧ Last f (-1) (0) m la ∧ ∃ x, wr = plus w x) (fun _ iv _ => k - (intOf iv).toNat)
        case atStart => exact ⟨0, -1, by omega, by go_num, rfl, last_nil f _ _, (by with_reducible repeat (first | exact ex_refl _ | exact ex_more | apply ex_alloc | apply ex_plus | apply ex_drew | apply ex_drewN))⟩
        case round =>
          obtain ⟨m, la, hm, rfl, rfl, hL, x, rfl⟩ := hrel
          by_cases hml : m < k
          · have im : (m : Int) < (k : Int) := by omega
            obtain ⟨g, off, rfl, hg, hc⟩ := hl.some (by omega)
            obtain ⟨c0, c1, c2, c3, c4, _, _, _, _, _, _, _, _, _⟩ := cellSy hlen hc hml
            rw [hfa] at c4
            by_cases h3 : f m = 3
            · have e := win_three hS hF h7' hL hml h3
              rw [h3] at c4
              clear hc hl hlen hfa hF hL hS
              go_wp2
              go_ret
              exact ⟨by first | rfl | (rw [e]; rfl), by with_reducible repeat (first | exact Below.refl _ _ | apply ba | apply bp | apply bd | apply bn)⟩
            have j3 : (f m == 3) = false := by simp [h3]
            by_cases hp : 0 < f m
            · have hL' := hL.take h3 hp
              clear hL
              go_wp2
              go_roundw
              case rel => exact ⟨m + 1, m, by omega, by go_num, rfl, hL', (by with_reducible repeat (first | exact ex_refl _ | exact ex_more | apply ex_alloc | apply ex_plus | apply ex_drew | apply ex_drewN))⟩
              case measure => simp [intOf]; omega
            · have hL' := hL.leave h3 hp
              clear hL
              go_wp2
              go_roundw
              case rel => exact ⟨m + 1, la, by omega, by go_num, rfl, hL', (by with_reducible repeat (first | exact ex_refl _ | exact ex_more | apply ex_alloc | apply ex_plus | apply ex_drew | apply ex_drewN))⟩
              case measure => simp [intOf]; omega
          · have im : ¬ (m : Int) < (k : Int) := by omega
            obtain rfl : m = k := by omega
            have e := win_last hS hF h7' hL
            clear hF hL hS
            go_wp2
            go_ret
            exact ⟨by first | rfl | (rw [e]; rfl), by with_reducible repeat (first | exact Below.refl _ _ | apply ba | apply bp | apply bd | apply bn)⟩

end Go.Proofs.Ythcplebmffbmpaa
