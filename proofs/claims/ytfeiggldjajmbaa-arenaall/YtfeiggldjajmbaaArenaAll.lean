/- ArenaAll is proved: the handles that All tells are held, rise by their slots, and a handle is among them just if Holds says so; an arena that may not be has none: the call returns true for any arena and handle. No condition. -/
import Derived.Test.YtfeiggldjajmbaaArenaA
import Derived.Test.YtfeiggldjajmbaaLaw
import Derived.Test.YtfeiggldjajmbaaOpen3
namespace Go.Proofs.Ytfeiggldjajmbaa
open Go.RowKit Go.ChangeShapes Go.WideShapes Go.ChangeAt
set_option linter.unusedSimpArgs false
set_option linter.unusedVariables false
attribute [local go_sem] plus_size plus_drew dn_set dn_alloc dn_plus plus_dn cell_plus frozen_plus set_plus cell_alloc frozen_alloc set_alloc

theorem lholds_is {ao : Option Addr} {n cap : Nat} {l : List Sl} {s g : Int} {w : World} {b : Bool} (h : holds l s g = b) (hl : Lay fS w ao n l) (hn : n ≤ 1000) :
    Calls Try.prog 20 #[.agg #[.slice ao n cap], .agg #[.int .i64 s, .int .i64 g]] w fun e w' => e = .returned (.bool b) ∧ Below w.heap.size w w' := by
  subst h
  exact lholds_calls ao n cap l s g w hl (by omega)

/-- what is told of the first k slots -/
theorem allH_at (l : List Sl) : ∀ (k i : Nat), i < (allH l k).length → ∃ j : Nat, j < k ∧ nth (0, 0) (allH l k) i = ((j : Int), (nth dSl l j).gen) ∧ (nth dSl l j).live = true
  | 0, i, h => by simp [allH] at h
  | k + 1, i, h => by
    by_cases hi : i < (allH l k).length
    · obtain ⟨j, hj, e, hv⟩ := allH_at l k i hi
      exact ⟨j, by omega, by unfold allH; rw [nth_append_left hi]; exact e, hv⟩
    · unfold allH at h ⊢
      cases hv : (nth dSl l k).live
      · rw [hv] at h
        simp at h
        omega
      · rw [hv, if_pos rfl, List.length_append] at h
        simp only [List.length_cons, List.length_nil] at h
        refine ⟨k, by omega, ?_, hv⟩
        rw [if_pos rfl, nth_append_right (by omega), show i - (allH l k).length = 0 by omega]
        rfl
theorem allH_rise (l : List Sl) : ∀ (k i : Nat), i + 1 < (allH l k).length → (nth (0, 0) (allH l k) i).1 < (nth (0, 0) (allH l k) (i + 1)).1
  | 0, i, h => by simp [allH] at h
  | k + 1, i, h => by
    by_cases hi : i + 1 < (allH l k).length
    · unfold allH
      rw [nth_append_left hi, nth_append_left (by omega)]
      exact allH_rise l k i hi
    · unfold allH at h ⊢
      cases hv : (nth dSl l k).live
      · rw [hv] at h
        simp at h
        omega
      · rw [hv, if_pos rfl, List.length_append] at h
        simp only [List.length_cons, List.length_nil] at h
        have hi' : i < (allH l k).length := by omega
        rw [if_pos rfl, nth_append_left hi', nth_append_right (k := i + 1) (by omega), show i + 1 - (allH l k).length = 0 by omega]
        obtain ⟨j, hj, e, _⟩ := allH_at l k i hi'
        rw [e]
        show (j : Int) < (k : Int)
        omega
theorem allH_has (l : List Sl) (j : Nat) (hv : (nth dSl l j).live = true) : ∀ k, j < k → ∃ i, i < (allH l k).length ∧ nth (0, 0) (allH l k) i = ((j : Int), (nth dSl l j).gen)
  | 0, h => by omega
  | k + 1, h => by
    by_cases hj : j < k
    · obtain ⟨i, hi, e⟩ := allH_has l j hv k hj
      exact ⟨i, by unfold allH; rw [List.length_append]; omega, by unfold allH; rw [nth_append_left hi]; exact e⟩
    · obtain rfl : j = k := by omega
      have hS : allH l (j + 1) = allH l j ++ [((j : Int), (nth dSl l j).gen)] := by
        show allH l j ++ _ = _
        rw [hv]
        rfl
      refine ⟨(allH l j).length, ?_, ?_⟩
      · rw [hS, List.length_append]
        simp
      · rw [hS, nth_append_right (Nat.le_refl _), Nat.sub_self]
        rfl
theorem allH_held {l : List Sl} {i : Nat} (ho : arOk l = true) (hi : i < (allH l l.length).length) : holds l (nth (0, 0) (allH l l.length) i).1 (nth (0, 0) (allH l l.length) i).2 = true := by
  obtain ⟨j, hj, e, hv⟩ := allH_at l _ i hi
  rw [holds, ho, e, Bool.true_and, held_spec]
  simp only [Int.toNat_natCast]
  exact ⟨by omega, hv, by first | rfl | trivial⟩
theorem allH_is {l : List Sl} {s g : Int} (ho : arOk l = true) {b : Bool} (hb : b = true ↔ ∃ j, j < (allH l l.length).length ∧ nth (0, 0) (allH l l.length) j = (s, g)) : holds l s g = b := by
  have hh : holds l s g = true ↔ b = true := by
    rw [hb]
    constructor
    · intro h
      rw [holds, ho, Bool.true_and, held_spec] at h
      obtain ⟨⟨h0, h1⟩, hv, hg⟩ := h
      obtain ⟨i, hi, e⟩ := allH_has l s.toNat hv l.length (by omega)
      exact ⟨i, hi, by rw [e, hg, Int.toNat_of_nonneg h0]⟩
    · rintro ⟨j, hj, e⟩
      have := allH_held ho hj
      rwa [e] at this
  cases b
  · cases h : holds l s g
    · rfl
    · exact absurd (hh.1 h) (by decide)
  · exact hh.2 rfl

set_option maxRecDepth 100000 in
set_option maxHeartbeats 4000000 in
theorem arenaAll_walk (ao : Option Addr) (n cap : Nat) (l : List Sl) (s g : Int) (w : World) (hn : n ≤ 9223372036854775807) (hl : Lay fS w ao n l) :
    Calls Try.prog 6 #[.agg #[.slice ao n cap], .agg #[.int .i64 s, .int .i64 g]] w fun e w' => e = .returned (.bool true) ∧ Below w.heap.size w w' := by
  have hlen := hl.len
  by_cases hbig : 1000 < n
  · have ib : (1000 : Int) < (n : Int) := by omega
    go_enter Try.func6, Try.ntmps6
    go_wp2_with (go_at_call 9; refine (plus_post (aalive_calls _)).mono ?_; rintro e w' ⟨rfl, na, rfl⟩)
    go_ret
    exact ⟨rfl, by with_reducible repeat (first | exact Below.refl _ _ | apply ba | apply bp | apply bd | apply bn)⟩
  have ib : ¬ (1000 : Int) < (n : Int) := by omega
  have db := decide_eq_false ib
  cases ho : arOk l
  · have hE : allErr l = 8 := by rw [allErr, ho]; rfl
    have hL : allList l = [] := by rw [allList, ho]; rfl
    go_enter Try.func6, Try.ntmps6
    go_wp2_with (first | (go_at_call 9; refine (plus_post (aalive_calls _)).mono ?_; rintro e w' ⟨rfl, na, rfl⟩) | (go_at_call 14; refine (lall_calls _ _ _ l _ (hl.ex (by with_reducible repeat (first | exact ex_refl _ | exact ex_more | apply ex_alloc | apply ex_plus | apply ex_drew | apply ex_drewN))) (by omega)).mono ?_; rw [hL, hE]; rintro e w1 ⟨ao1, m1, cap1, rfl, hw1, hl1⟩; have q0 : w1.cell? ⟨w.heap.size, 0, none⟩ = some (.slice ao n cap) := cell_ex hw1 (by simp [go_sem, ↓IntWalk.iteOmega]); have q1 : w1.cell? ⟨w.heap.size + 1, 0, none⟩ = some (.int .i64 s) := cell_ex hw1 (by simp [go_sem, ↓IntWalk.iteOmega]); have q2 : w1.cell? ⟨w.heap.size + 1, 1, none⟩ = some (.int .i64 g) := cell_ex hw1 (by simp [go_sem, ↓IntWalk.iteOmega]); have q3 : w.heap.size + 1 < w1.heap.size := cell_lt q1; obtain rfl : 0 = m1 := hl1.len))
    go_ret
    exact ⟨rfl, below_ex (by with_reducible repeat (first | exact ex_refl _ | exact ex_more | apply ex_alloc | apply ex_plus | apply ex_drew | apply ex_drewN | (apply ex_on; assumption)))⟩
  have hE : allErr l = 0 := by rw [allErr, ho]; rfl
  have hL : allList l = allH l n := by rw [allList, ho, hlen]; rfl
  have h128 := arOk_len ho
  go_enter Try.func6, Try.ntmps6
  go_wp2_with (first | (go_at_call 9; refine (plus_post (aalive_calls _)).mono ?_; rintro e w' ⟨rfl, na, rfl⟩) | (go_at_call 14; refine (lall_calls _ _ _ l _ (hl.ex (by with_reducible repeat (first | exact ex_refl _ | exact ex_more | apply ex_alloc | apply ex_plus | apply ex_drew | apply ex_drewN))) (by omega)).mono ?_; rw [hL, hE]; rintro e w1 ⟨ao1, m1, cap1, rfl, hw1, hl1⟩; have q0 : w1.cell? ⟨w.heap.size, 0, none⟩ = some (.slice ao n cap) := cell_ex hw1 (by simp [go_sem, ↓IntWalk.iteOmega]); have q1 : w1.cell? ⟨w.heap.size + 1, 0, none⟩ = some (.int .i64 s) := cell_ex hw1 (by simp [go_sem, ↓IntWalk.iteOmega]); have q2 : w1.cell? ⟨w.heap.size + 1, 1, none⟩ = some (.int .i64 g) := cell_ex hw1 (by simp [go_sem, ↓IntWalk.iteOmega]); have q3 : w.heap.size + 1 < w1.heap.size := cell_lt q1))
  have hm1 := hl1.len
  have hle := allH_le l n
  go_loopw [8, 9] (fun b i wr => ∃ (k : Nat) (bb : Bool), k ≤ m1 ∧ b = .bool bb ∧ i = .int .i64 k ∧ (bb = true ↔ ∃ j, j < k ∧ nth (0, 0) (allH l n) j = (s, g)) ∧ ∃ x, wr = plus w1 x) (fun _ i _ => m1 - (intOf i).toNat)
  case atStart => exact ⟨0, false, Nat.zero_le _, rfl, rfl, by constructor; (intro h; cases h); (rintro ⟨j, hj, _⟩; omega), (by with_reducible repeat (first | exact ex_refl _ | exact ex_more | apply ex_alloc | apply ex_plus | apply ex_drew | apply ex_drewN))⟩
  case round =>
    obtain ⟨k, bb, hk, rfl, rfl, hbb, x, rfl⟩ := hrel
    by_cases hkl : k < m1
    · have ik : (k : Int) < (m1 : Int) := by omega
      obtain ⟨g1, o1, rfl, hg1, hc1⟩ := hl1.some (by omega)
      obtain ⟨c0, c1⟩ := cell2 hm1 hc1 hkl
      have hkh : holds l (nth (0, 0) (allH l n) k).1 (nth (0, 0) (allH l n) k).2 = true := by
        have := allH_held (i := k) ho (by rw [hlen, hm1]; exact hkl)
        rwa [hlen] at this
      have hnext : ∀ b2 : Bool, (b2 = true ↔ bb = true ∨ nth (0, 0) (allH l n) k = (s, g)) → (b2 = true ↔ ∃ j, j < k + 1 ∧ nth (0, 0) (allH l n) j = (s, g)) := by
        intro b2 h2
        rw [h2, hbb]
        constructor
        · rintro (⟨j, hj, e⟩ | e)
          · exact ⟨j, by omega, e⟩
          · exact ⟨k, by omega, e⟩
        · rintro ⟨j, hj, e⟩
          by_cases hjk : j = k
          · exact .inr (hjk ▸ e)
          · exact .inl ⟨j, by omega, e⟩
      by_cases hk0 : k = 0
      · have ik0 : ¬ (0 : Int) < (k : Int) := by omega
        have dk0 : decide (0 < k) = false := decide_eq_false (by omega)
        clear hk0
        cases hb0 : bb
        · by_cases e0 : (nth (0, 0) (allH l n) (k)).1 = s
          rotate_left
          · have d0 : ((nth (0, 0) (allH l n) (k)).1 == s) = false := by rw [beq_eq_false_iff_ne]; exact e0
            go_wp2
            refine region_plus (by kernel_rfl) (by kernel_rfl) ?_
            (repeat (go_big_quiet_step ((go_at_call 20; exact plus_of (lholds_is hkh (hl.ex (by with_reducible repeat (first | exact ex_refl _ | exact ex_more | apply ex_alloc | apply ex_plus | apply ex_drew | apply ex_drewN | (apply ex_on; assumption)))) (by omega))))))
            refine wpQuiet_nil ?_
            rintro _ ⟨x2, rfl⟩
            go_wp2
            refine region_plus (by kernel_rfl) (by kernel_rfl) ?_
            (repeat (go_big_quiet_step (fail)))
            refine wpQuiet_nil ?_
            rintro _ ⟨x2, rfl⟩
            go_wp2
            go_roundw
            case rel => exact ⟨k + 1, false, by omega, rfl, by go_num, hnext false (by rw [hb0]; simp; intro e; rw [e] at e0; exact e0 rfl), (by with_reducible repeat (first | exact ex_refl _ | exact ex_more | apply ex_alloc | apply ex_plus | apply ex_drew | apply ex_drewN))⟩
            case measure => simp [intOf]; omega
          rw [e0] at hkh
          by_cases e1 : (nth (0, 0) (allH l n) (k)).2 = g
          rotate_left
          · have d1 : ((nth (0, 0) (allH l n) (k)).2 == g) = false := by rw [beq_eq_false_iff_ne]; exact e1
            go_wp2
            refine region_plus (by kernel_rfl) (by kernel_rfl) ?_
            (repeat (go_big_quiet_step ((go_at_call 20; exact plus_of (lholds_is hkh (hl.ex (by with_reducible repeat (first | exact ex_refl _ | exact ex_more | apply ex_alloc | apply ex_plus | apply ex_drew | apply ex_drewN | (apply ex_on; assumption)))) (by omega))))))
            refine wpQuiet_nil ?_
            rintro _ ⟨x2, rfl⟩
            go_wp2
            refine region_plus (by kernel_rfl) (by kernel_rfl) ?_
            (repeat (go_big_quiet_step (fail)))
            refine wpQuiet_nil ?_
            rintro _ ⟨x2, rfl⟩
            go_wp2
            go_roundw
            case rel => exact ⟨k + 1, false, by omega, rfl, by go_num, hnext false (by rw [hb0]; simp; intro e; rw [e] at e1; exact e1 rfl), (by with_reducible repeat (first | exact ex_refl _ | exact ex_more | apply ex_alloc | apply ex_plus | apply ex_drew | apply ex_drewN))⟩
            case measure => simp [intOf]; omega
          rw [e1] at hkh
          go_wp2
          refine region_plus (by kernel_rfl) (by kernel_rfl) ?_
          (repeat (go_big_quiet_step ((go_at_call 20; exact plus_of (lholds_is hkh (hl.ex (by with_reducible repeat (first | exact ex_refl _ | exact ex_more | apply ex_alloc | apply ex_plus | apply ex_drew | apply ex_drewN | (apply ex_on; assumption)))) (by omega))))))
          refine wpQuiet_nil ?_
          rintro _ ⟨x2, rfl⟩
          go_wp2
          refine region_plus (by kernel_rfl) (by kernel_rfl) ?_
          (repeat (go_big_quiet_step (fail)))
          refine wpQuiet_nil ?_
          rintro _ ⟨x2, rfl⟩
          go_wp2
          go_roundw
          case rel => exact ⟨k + 1, true, by omega, rfl, by go_num, hnext true (by rw [hb0]; simp; exact Prod.ext e0 e1), (by with_reducible repeat (first | exact ex_refl _ | exact ex_more | apply ex_alloc | apply ex_plus | apply ex_drew | apply ex_drewN))⟩
          case measure => simp [intOf]; omega
        · skip
          go_wp2
          refine region_plus (by kernel_rfl) (by kernel_rfl) ?_
          (repeat (go_big_quiet_step ((go_at_call 20; exact plus_of (lholds_is hkh (hl.ex (by with_reducible repeat (first | exact ex_refl _ | exact ex_more | apply ex_alloc | apply ex_plus | apply ex_drew | apply ex_drewN | (apply ex_on; assumption)))) (by omega))))))
          refine wpQuiet_nil ?_
          rintro _ ⟨x2, rfl⟩
          go_wp2
          refine region_plus (by kernel_rfl) (by kernel_rfl) ?_
          (repeat (go_big_quiet_step (fail)))
          refine wpQuiet_nil ?_
          rintro _ ⟨x2, rfl⟩
          go_wp2
          go_roundw
          case rel => exact ⟨k + 1, true, by omega, rfl, by go_num, hnext true (by rw [hb0]; simp), (by with_reducible repeat (first | exact ex_refl _ | exact ex_more | apply ex_alloc | apply ex_plus | apply ex_drew | apply ex_drewN))⟩
          case measure => simp [intOf]; omega
      · have ik0 : (0 : Int) < (k : Int) := by omega
        obtain ⟨q, rfl⟩ : ∃ q, k = q + 1 := ⟨k - 1, by omega⟩
        obtain ⟨p0, p1⟩ := cell2 hm1 hc1 (k := q) (by omega)
        have hr := allH_rise l n q (by omega)
        have dr : decide ((nth (0, 0) (allH l n) (q + 1)).1 ≤ (nth (0, 0) (allH l n) q).1) = false := decide_eq_false (by omega)
        have im : ((q + 1 : Nat) : Int) - 1 = (q : Int) := by omega
        have iq : (q : Int) < (m1 : Int) := by omega
        cases hb0 : bb
        · by_cases e0 : (nth (0, 0) (allH l n) (q + 1)).1 = s
          rotate_left
          · have d0 : ((nth (0, 0) (allH l n) (q + 1)).1 == s) = false := by rw [beq_eq_false_iff_ne]; exact e0
            go_wp2
            refine region_plus (by kernel_rfl) (by kernel_rfl) ?_
            (repeat (go_big_quiet_step ((go_at_call 20; exact plus_of (lholds_is hkh (hl.ex (by with_reducible repeat (first | exact ex_refl _ | exact ex_more | apply ex_alloc | apply ex_plus | apply ex_drew | apply ex_drewN | (apply ex_on; assumption)))) (by omega))))))
            refine wpQuiet_nil ?_
            rintro _ ⟨x2, rfl⟩
            go_wp2
            refine region_plus (by kernel_rfl) (by kernel_rfl) ?_
            (repeat (go_big_quiet_step (fail)))
            refine wpQuiet_nil ?_
            rintro _ ⟨x2, rfl⟩
            go_wp2
            go_roundw
            case rel => exact ⟨q + 1 + 1, false, by omega, rfl, by go_num, hnext false (by rw [hb0]; simp; intro e; rw [e] at e0; exact e0 rfl), (by with_reducible repeat (first | exact ex_refl _ | exact ex_more | apply ex_alloc | apply ex_plus | apply ex_drew | apply ex_drewN))⟩
            case measure => simp [intOf]; omega
          rw [e0] at hkh
          by_cases e1 : (nth (0, 0) (allH l n) (q + 1)).2 = g
          rotate_left
          · have d1 : ((nth (0, 0) (allH l n) (q + 1)).2 == g) = false := by rw [beq_eq_false_iff_ne]; exact e1
            go_wp2
            refine region_plus (by kernel_rfl) (by kernel_rfl) ?_
            (repeat (go_big_quiet_step ((go_at_call 20; exact plus_of (lholds_is hkh (hl.ex (by with_reducible repeat (first | exact ex_refl _ | exact ex_more | apply ex_alloc | apply ex_plus | apply ex_drew | apply ex_drewN | (apply ex_on; assumption)))) (by omega))))))
            refine wpQuiet_nil ?_
            rintro _ ⟨x2, rfl⟩
            go_wp2
            refine region_plus (by kernel_rfl) (by kernel_rfl) ?_
            (repeat (go_big_quiet_step (fail)))
            refine wpQuiet_nil ?_
            rintro _ ⟨x2, rfl⟩
            go_wp2
            go_roundw
            case rel => exact ⟨q + 1 + 1, false, by omega, rfl, by go_num, hnext false (by rw [hb0]; simp; intro e; rw [e] at e1; exact e1 rfl), (by with_reducible repeat (first | exact ex_refl _ | exact ex_more | apply ex_alloc | apply ex_plus | apply ex_drew | apply ex_drewN))⟩
            case measure => simp [intOf]; omega
          rw [e1] at hkh
          go_wp2
          refine region_plus (by kernel_rfl) (by kernel_rfl) ?_
          (repeat (go_big_quiet_step ((go_at_call 20; exact plus_of (lholds_is hkh (hl.ex (by with_reducible repeat (first | exact ex_refl _ | exact ex_more | apply ex_alloc | apply ex_plus | apply ex_drew | apply ex_drewN | (apply ex_on; assumption)))) (by omega))))))
          refine wpQuiet_nil ?_
          rintro _ ⟨x2, rfl⟩
          go_wp2
          refine region_plus (by kernel_rfl) (by kernel_rfl) ?_
          (repeat (go_big_quiet_step (fail)))
          refine wpQuiet_nil ?_
          rintro _ ⟨x2, rfl⟩
          go_wp2
          go_roundw
          case rel => exact ⟨q + 1 + 1, true, by omega, rfl, by go_num, hnext true (by rw [hb0]; simp; exact Prod.ext e0 e1), (by with_reducible repeat (first | exact ex_refl _ | exact ex_more | apply ex_alloc | apply ex_plus | apply ex_drew | apply ex_drewN))⟩
          case measure => simp [intOf]; omega
        · skip
          go_wp2
          refine region_plus (by kernel_rfl) (by kernel_rfl) ?_
          (repeat (go_big_quiet_step ((go_at_call 20; exact plus_of (lholds_is hkh (hl.ex (by with_reducible repeat (first | exact ex_refl _ | exact ex_more | apply ex_alloc | apply ex_plus | apply ex_drew | apply ex_drewN | (apply ex_on; assumption)))) (by omega))))))
          refine wpQuiet_nil ?_
          rintro _ ⟨x2, rfl⟩
          go_wp2
          refine region_plus (by kernel_rfl) (by kernel_rfl) ?_
          (repeat (go_big_quiet_step (fail)))
          refine wpQuiet_nil ?_
          rintro _ ⟨x2, rfl⟩
          go_wp2
          go_roundw
          case rel => exact ⟨q + 1 + 1, true, by omega, rfl, by go_num, hnext true (by rw [hb0]; simp), (by with_reducible repeat (first | exact ex_refl _ | exact ex_more | apply ex_alloc | apply ex_plus | apply ex_drew | apply ex_drewN))⟩
          case measure => simp [intOf]; omega
    · have ik : ¬ (k : Int) < (m1 : Int) := by omega
      obtain rfl : k = m1 := by omega
      have hfin : holds l s g = bb := allH_is ho (by rw [hlen, hm1]; exact hbb)
      go_wp2_with (go_at_call 20; refine (plus_post (lholds_is hfin (hl.ex (by with_reducible repeat (first | exact ex_refl _ | exact ex_more | apply ex_alloc | apply ex_plus | apply ex_drew | apply ex_drewN | (apply ex_on; assumption)))) (by omega))).mono ?_; rintro e w' ⟨rfl, nx, rfl⟩)
      go_ret
      exact ⟨by cases bb <;> rfl, below_ex (by with_reducible repeat (first | exact ex_refl _ | exact ex_more | apply ex_alloc | apply ex_plus | apply ex_drew | apply ex_drewN | (apply ex_on; assumption)))⟩

set_option maxRecDepth 100000 in
theorem arenaAll_lifted (os : Os) (started : os.Started) (H : Type) (enc : TypeId × Value → H) :
    ReturnsInHanded {} Try.checked os 6 .any (Rows.arenaAllSpec.pre6 enc Try.prog Try.f6 Rows.arenaAllRow.domain false) (Rows.arenaAllSpec.post enc Try.prog Try.f6 false true false false) := by
  refine returnsInHanded_of_change (C := Try.checked) own started (by kernel_rfl) Try.func6
    (ChangeSpec.witness6 (enc := enc) (C := Try.checked) false ⟨#[], #[.agg #[.slice none 0 0], .agg #[.int .i64 0, .int .i64 0]], []⟩ 8 (by kernel_rfl) (by kernel_rfl) (by kernel_rfl) (by kernel_rfl)) ?_
  intro W base args ds gs before hval0 hW hcnd _
  have hval : ∀ (j : Nat) t v, Try.f6.params[j]? = some t → args[j]? = some v → Value.okWide Try.prog W .any base t v := hval0
  have hW' := hW
  obtain ⟨p, q, hA0, hV, rfl, hfz, hnd⟩ := hW
  have hA : DataW.TrodAll enc Try.prog W 0 (fun _ => true) true Try.f6.params.toList args.toList ds p := hA0
  rw [Try.params6] at hA hval
  obtain ⟨v0, vs0, d0, ds0, p0, q0, hargs, rfl, rfl, h0, r0⟩ := trodAll_cons hA
  obtain ⟨v1, vs1, d1, ds1, p1, q1, rfl, rfl, rfl, h1, r1⟩ := trodAll_cons r0
  obtain ⟨rfl, rfl, rfl⟩ := trodAll_nil r1
  obtain rfl : args = #[v0, v1] := by cases args; simp_all
  obtain ⟨ao0, n0, cap0, l0, rfl, hn0, hz0, hl0⟩ := open_arena Try.underlying24 (by kernel_rfl) (by kernel_rfl) Try.underlying22 (by kernel_rfl) Try.underlying33 (by kernel_rfl) Try.underlying3 Try.underlying4 (hval 0 24 v0 rfl rfl) h0
  obtain ⟨a1_0, a1_1, rfl, ca1_0, ca1_1⟩ := open_flat2 (k := 4) (t := 26) (by kernel_rfl) (by kernel_rfl) (by kernel_rfl) (hval 1 26 v1 rfl rfl) h1
  refine (arenaAll_walk ao0 n0 cap0 l0 a1_0 a1_1  W hn0 hl0).mono fun e W' ⟨he, hb⟩ => ?_
  exact ⟨_, he, law_post laidOut Try.underlying4 rfl (by kernel_rfl) (by kernel_rfl) (fun ds h => match ds, h with | [_, _], _ => rfl) hW' hb⟩

theorem arenaAll_holds : Rows.ArenaAllSaid :=
  OpenClaim.holds_of_wide 6 Try.f6 rfl rfl rfl rfl rfl rfl rfl ⟨rfl, rfl, rfl, rfl, rfl⟩ rfl rfl rfl rfl rfl (by kernel_rfl) Try.func6 (by kernel_rfl)
    (of_decide_eq_true (by kernel_rfl)) (by unfold Func.isWrapper; first | (rw [if_pos (by decide +kernel)]; kernel_rfl) | (rw [if_neg (by decide +kernel)]; exact ⟨rfl, rfl⟩))
    (fun os started H enc _ => arenaAll_lifted os started H enc)
#print axioms arenaAll_holds
end Go.Proofs.Ytfeiggldjajmbaa
