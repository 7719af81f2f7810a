/- What dioramaref09.May and Great, and Checks, give. -/
import Derived.Test.YtimmbpcoagjcbaaTx1
namespace Go.Proofs.Ytimmbpcoagjcbaa
open Go.RowKit Go.ChangeShapes Go.WideShapes Go.ChangeAt
set_option linter.unusedSimpArgs false
set_option linter.unusedVariables false
attribute [local go_sem] plus_size plus_drew dn_set dn_alloc dn_plus plus_dn cell_plus frozen_plus set_plus cell_alloc frozen_alloc set_alloc

/-- a fact that the walk is not to use -/
structure Hush9 (p : Prop) : Prop where
  it : p
/-- a callee that ends in a grown world, met in a grown world -/
theorem q9_of {P : Program} {f : FuncId} {args : Array Value} {w : World} {x : List More} {v : Value}
    (h : Calls P f args (plus w x) fun e w' => e = .returned v ∧ ∃ y, w' = plus (plus w x) y) : Calls P f args (plus w x) fun e w' => e = .returned v ∧ ∃ y, w' = plus w y :=
  h.mono fun _ _ ⟨he, hb⟩ => ⟨he, ex_trans ⟨x, rfl⟩ hb⟩
theorem upto_succ9 {p : Nat → Prop} {k : Nat} (h : ∀ j, j < k → p j) (hk : p k) : ∀ j, j < k + 1 → p j := by
  intro j hj
  rcases Nat.lt_or_eq_of_le (Nat.le_of_lt_succ hj) with e | e
  · exact h j e
  · exact e ▸ hk
theorem checks_many {hs : List TH} (h : 16 < hs.length) : checksT hs = 4 := if_pos h
theorem checks_bad {hs : List TH} {k : Nat} (h : ¬ 16 < hs.length) (hk : k < hs.length) (hb : mayH (nth th0 hs k) = false) : checksT hs = 8 := by
  rw [checksT, if_neg h, if_neg]
  rw [all_not hk hb]
  decide
theorem checks_good {hs : List TH} (h : ¬ 16 < hs.length) (hb : ∀ k, k < hs.length → mayH (nth th0 hs k) = true) : checksT hs = 0 := by
  rw [checksT, if_neg h, if_pos (all_yes hb)]
theorem err_no {t : TH} (h : mayH t = false) : errT t.w t.h t.n = 8 := by rw [errT, if_neg]; rw [show mayT t.w t.h t.n = false from h]; decide
theorem err_ok {t : TH} (h : mayH t = true) : errT t.w t.h t.n = 0 := by rw [errT, if_pos]; exact h
theorem tcheck_is {W H e : Int} {ao : Option Addr} {n cap : Nat} {w : World} (h : errT W H n = e) : Calls Try.prog 10 #[.agg #[.int .i64 W, .int .i64 H, .slice ao n cap]] w fun e' w' => e' = .returned (.int .i64 e) ∧ ∃ y, w' = plus w y := h ▸ tcheck_calls W H ao n cap w

theorem rmay9_calls (W H : Int) (ao : Option Addr) (n cap : Nat) (w : World) : Calls Try.prog 18 #[.agg #[.int .i64 W, .int .i64 H, .slice ao n cap]] w fun e w' => e = .returned (.bool (mayT W H n)) ∧ ∃ y, w' = plus w y := by
  by_cases h0 : 1 ≤ W
  rotate_left
  · rw [show mayT W H n = false by simp [mayT, side, h0]]
    go_enter Try.func18, Try.ntmps18
    go_wp2
    go_ret
    exact ⟨rfl, (by with_reducible repeat (first | exact ex_refl _ | exact ex_more9 | apply ex_alloc | apply ex_plus | apply ex_drew | apply ex_drewN))⟩
  by_cases h1 : W ≤ 16
  rotate_left
  · rw [show mayT W H n = false by simp [mayT, side, h1]]
    go_enter Try.func18, Try.ntmps18
    go_wp2
    go_ret
    exact ⟨rfl, (by with_reducible repeat (first | exact ex_refl _ | exact ex_more9 | apply ex_alloc | apply ex_plus | apply ex_drew | apply ex_drewN))⟩
  by_cases h2 : 1 ≤ H
  rotate_left
  · rw [show mayT W H n = false by simp [mayT, side, h2]]
    go_enter Try.func18, Try.ntmps18
    go_wp2
    go_ret
    exact ⟨rfl, (by with_reducible repeat (first | exact ex_refl _ | exact ex_more9 | apply ex_alloc | apply ex_plus | apply ex_drew | apply ex_drewN))⟩
  by_cases h3 : H ≤ 16
  rotate_left
  · rw [show mayT W H n = false by simp [mayT, side, h3]]
    go_enter Try.func18, Try.ntmps18
    go_wp2
    go_ret
    exact ⟨rfl, (by with_reducible repeat (first | exact ex_refl _ | exact ex_more9 | apply ex_alloc | apply ex_plus | apply ex_drew | apply ex_drewN))⟩
  have b := mul_le16 ⟨h0, h1⟩ ⟨h2, h3⟩
  have ew : IntKind.i64.wrap (W * H) = W * H := wrap_le9 (by omega)
  have ew2 : wrap64 (W * H) = W * H := by rw [IntWalk.wrap64_in] <;> omega
  by_cases hn : (n : Int) = W * H
  · rw [show mayT W H n = true by exact mayT_iff.2 ⟨⟨h0, h1⟩, ⟨h2, h3⟩, hn⟩]
    have hb : ((n : Int) == W * H) = true := by rw [beq_iff_eq]; exact hn
    go_enter Try.func18, Try.ntmps18
    go_wp2
    go_ret
    exact ⟨rfl, (by with_reducible repeat (first | exact ex_refl _ | exact ex_more9 | apply ex_alloc | apply ex_plus | apply ex_drew | apply ex_drewN))⟩
  · rw [show mayT W H n = false by exact mayT_len hn]
    have hb : ((n : Int) == W * H) = false := by rw [beq_eq_false_iff_ne]; exact hn
    go_enter Try.func18, Try.ntmps18
    go_wp2
    go_ret
    exact ⟨rfl, (by with_reducible repeat (first | exact ex_refl _ | exact ex_more9 | apply ex_alloc | apply ex_plus | apply ex_drew | apply ex_drewN))⟩

theorem rmay9_is {W H : Int} {ao : Option Addr} {n cap : Nat} {b : Bool} {w : World} (h : mayT W H n = b) : Calls Try.prog 18 #[.agg #[.int .i64 W, .int .i64 H, .slice ao n cap]] w fun e w' => e = .returned (.bool b) ∧ ∃ y, w' = plus w y := h ▸ rmay9_calls W H ao n cap w

set_option maxHeartbeats 2000000 in
theorem tchecks_calls (ao : Option Addr) (n cap : Nat) (hs : List TH) (w : World) (hl : Lay fTh w ao n hs) (hn : n ≤ 9223372036854775807) :
    Calls Try.prog 11 #[.slice ao n cap] w fun e w' => e = .returned (.int .i64 (checksT hs)) ∧ ∃ y, w' = plus w y := by
  have hlen := hl.len
  by_cases hbig : 16 < n
  · rw [checks_many (by omega)]
    have ib : (16 : Int) < (n : Int) := by omega
    go_enter Try.func11, Try.ntmps11
    go_wp2
    go_ret
    exact ⟨rfl, (by with_reducible repeat (first | exact ex_refl _ | exact ex_more9 | apply ex_alloc | apply ex_plus | apply ex_drew | apply ex_drewN))⟩
  have ib : ¬ (16 : Int) < (n : Int) := by omega
  go_enter Try.func11, Try.ntmps11
  go_wp2
  go_loopw [11] (fun i wr => ∃ k : Nat, k ≤ n ∧ i = .int .i64 k ∧ (∀ j, j < k → mayH (nth th0 hs j) = true) ∧ ∃ y, wr = plus w y) (fun i _ => n - (intOf i).toNat)
  case atStart => exact ⟨0, Nat.zero_le _, rfl, fun j hj => by omega, (by with_reducible repeat (first | exact ex_refl _ | exact ex_more9 | apply ex_alloc | apply ex_plus | apply ex_drew | apply ex_drewN))⟩
  case round =>
    obtain ⟨k, hk, rfl, hs', y, rfl⟩ := hrel
    by_cases hkl : k < n
    · obtain ⟨g, off, rfl, hg, hcell⟩ := hl.some (by omega)
      obtain ⟨c0, c1, c2⟩ := cellTh hlen hcell hkl
      have ik : (k : Int) < (n : Int) := by omega
      cases hm : mayH (nth th0 hs k)
      · have he := err_no hm
        go_wp2_with (go_at_call 10; refine (tcheck_is he).mono ?_; rintro e w' ⟨rfl, nx, rfl⟩)
        go_ret
        exact ⟨by rw [checks_bad (by omega) (by omega) hm]; rfl, (by with_reducible repeat (first | exact ex_refl _ | exact ex_more9 | apply ex_alloc | apply ex_plus | apply ex_drew | apply ex_drewN))⟩
      · have he := err_ok hm
        go_wp2_with (go_at_call 10; refine (tcheck_is he).mono ?_; rintro e w' ⟨rfl, nx, rfl⟩)
        go_roundw
        case rel => exact ⟨k + 1, by omega, by go_num, upto_succ9 hs' hm, (by with_reducible repeat (first | exact ex_refl _ | exact ex_more9 | apply ex_alloc | apply ex_plus | apply ex_drew | apply ex_drewN))⟩
        case measure => simp [intOf]; omega
    · have ik : ¬ (k : Int) < (n : Int) := by omega
      go_wp2
      go_ret
      exact ⟨by rw [checks_good (by omega) (fun j hj => hs' j (by omega))]; rfl, (by with_reducible repeat (first | exact ex_refl _ | exact ex_more9 | apply ex_alloc | apply ex_plus | apply ex_drew | apply ex_drewN))⟩

set_option maxHeartbeats 2000000 in
theorem rchecks9_calls (ao : Option Addr) (n cap : Nat) (hs : List TH) (w : World) (hl : Lay fTh w ao n hs) (hn : n ≤ 9223372036854775807) :
    Calls Try.prog 17 #[.slice ao n cap] w fun e w' => e = .returned (.int .i64 (checksT hs)) ∧ ∃ y, w' = plus w y := by
  have hlen := hl.len
  by_cases hbig : 16 < n
  · rw [checks_many (by omega)]
    have ib : (16 : Int) < (n : Int) := by omega
    go_enter Try.func17, Try.ntmps17
    go_wp2
    go_ret
    exact ⟨rfl, (by with_reducible repeat (first | exact ex_refl _ | exact ex_more9 | apply ex_alloc | apply ex_plus | apply ex_drew | apply ex_drewN))⟩
  have ib : ¬ (16 : Int) < (n : Int) := by omega
  go_enter Try.func17, Try.ntmps17
  go_wp2
  go_loopw [3] (fun i wr => ∃ k : Nat, k ≤ n ∧ i = .int .i64 k ∧ (∀ j, j < k → mayH (nth th0 hs j) = true) ∧ ∃ y, wr = plus w y) (fun i _ => n - (intOf i).toNat)
  case atStart => exact ⟨0, Nat.zero_le _, rfl, fun j hj => by omega, (by with_reducible repeat (first | exact ex_refl _ | exact ex_more9 | apply ex_alloc | apply ex_plus | apply ex_drew | apply ex_drewN))⟩
  case round =>
    obtain ⟨k, hk, rfl, hs', y, rfl⟩ := hrel
    by_cases hkl : k < n
    · obtain ⟨g, off, rfl, hg, hcell⟩ := hl.some (by omega)
      obtain ⟨c0, c1, c2⟩ := cellTh hlen hcell hkl
      have ik : (k : Int) < (n : Int) := by omega
      cases hm : mayH (nth th0 hs k)
      · have he : mayT (nth th0 hs k).w (nth th0 hs k).h (nth th0 hs k).n = _ := hm
        go_wp2_with (go_at_call 18; refine (rmay9_is he).mono ?_; rintro e w' ⟨rfl, nx, rfl⟩)
        go_ret
        exact ⟨by rw [checks_bad (by omega) (by omega) hm]; rfl, (by with_reducible repeat (first | exact ex_refl _ | exact ex_more9 | apply ex_alloc | apply ex_plus | apply ex_drew | apply ex_drewN))⟩
      · have he : mayT (nth th0 hs k).w (nth th0 hs k).h (nth th0 hs k).n = _ := hm
        go_wp2_with (go_at_call 18; refine (rmay9_is he).mono ?_; rintro e w' ⟨rfl, nx, rfl⟩)
        go_roundw
        case rel => exact ⟨k + 1, by omega, by go_num, upto_succ9 hs' hm, (by with_reducible repeat (first | exact ex_refl _ | exact ex_more9 | apply ex_alloc | apply ex_plus | apply ex_drew | apply ex_drewN))⟩
        case measure => simp [intOf]; omega
    · have ik : ¬ (k : Int) < (n : Int) := by omega
      go_wp2
      go_ret
      exact ⟨by rw [checks_good (by omega) (fun j hj => hs' j (by omega))]; rfl, (by with_reducible repeat (first | exact ex_refl _ | exact ex_more9 | apply ex_alloc | apply ex_plus | apply ex_drew | apply ex_drewN))⟩

theorem tchecks_is {ao : Option Addr} {n cap : Nat} {hs : List TH} {w : World} {k : Int} (h : checksT hs = k) (hl : Lay fTh w ao n hs) (hn : n ≤ 9223372036854775807) :
    Calls Try.prog 11 #[.slice ao n cap] w fun e w' => e = .returned (.int .i64 k) ∧ ∃ y, w' = plus w y := h ▸ tchecks_calls ao n cap hs w hl hn

theorem rchecks9_is {ao : Option Addr} {n cap : Nat} {hs : List TH} {w : World} {k : Int} (h : checksT hs = k) (hl : Lay fTh w ao n hs) (hn : n ≤ 9223372036854775807) :
    Calls Try.prog 17 #[.slice ao n cap] w fun e w' => e = .returned (.int .i64 k) ∧ ∃ y, w' = plus w y := h ▸ rchecks9_calls ao n cap hs w hl hn

theorem minB9 (a b : Int) : (if b < a then b else a) = min a b := by
  split <;> omega
attribute [local go_sem] minB9
def sumT (l : List TH) : Nat := (l.map fun t => min t.n 100000).sum
def greatT (hs : List TH) : Bool := decide (40 < hs.length) || decide (20000 < sumT (hs.take 100))
theorem sumT_next {hs : List TH} {k : Nat} (hk : k < hs.length) : sumT (hs.take (k + 1)) = sumT (hs.take k) + min (nth th0 hs k).n 100000 := by
  rw [take_nth (d := th0) hk]
  simp [sumT]
theorem sumT_mem {t : TH} : ∀ {l : List TH}, t ∈ l → min t.n 100000 ≤ sumT l
  | [], h => by cases h
  | a :: l, h => by
    have e : sumT (a :: l) = min a.n 100000 + sumT l := by simp [sumT]
    rcases List.mem_cons.1 h with rfl | h
    · omega
    · have := sumT_mem h
      omega
theorem great_no {hs : List TH} (h : greatT hs = false) : hs.length ≤ 40 ∧ ∀ k, k < hs.length → (nth th0 hs k).n ≤ 20000 := by
  simp only [greatT, Bool.or_eq_false_iff, decide_eq_false_iff_not, Nat.not_lt] at h
  refine ⟨h.1, fun k hk => ?_⟩
  have h2 := h.2
  rw [List.take_of_length_le (by omega)] at h2
  have := sumT_mem (nth_mem (d := th0) hk)
  omega
theorem great_yes {hs : List TH} (h : 40 < hs.length) : greatT hs = true := by simp [greatT, h]
theorem great_sum {hs : List TH} {q : Nat} (h : ¬ 40 < hs.length) (hq : sumT (hs.take hs.length) = q) : greatT hs = decide (20000 < q) := by
  rw [List.take_length] at hq
  rw [greatT, List.take_of_length_le (by omega), hq]
  simp [h]

set_option maxHeartbeats 2000000 in
theorem rgreat9_calls (ao : Option Addr) (n cap : Nat) (hs : List TH) (w : World) (hl : Lay fTh w ao n hs) (hn : n ≤ 9223372036854775807) (hm : ∀ k, k < n → (nth th0 hs k).n ≤ 9223372036854775807) :
    Calls Try.prog 12 #[.slice ao n cap] w fun e w' => e = .returned (.bool (greatT hs)) ∧ ∃ y, w' = plus w y := by
  have hlen := hl.len
  go_enter Try.func12, Try.ntmps12
  go_wp2
  go_loopw [3, 4] (fun s i wr => ∃ k q : Nat, k ≤ n ∧ k ≤ 100 ∧ q ≤ k * 100000 ∧ s = .int .i64 q ∧ i = .int .i64 k ∧ sumT (hs.take k) = q ∧ ∃ y, wr = plus w y) (fun _ i _ => n - (intOf i).toNat)
  case atStart => exact ⟨0, 0, Nat.zero_le _, Nat.zero_le _, Nat.zero_le _, rfl, rfl, rfl, (by with_reducible repeat (first | exact ex_refl _ | exact ex_more9 | apply ex_alloc | apply ex_plus | apply ex_drew | apply ex_drewN))⟩
  case round =>
    obtain ⟨k, q, hk, hk1, hq, rfl, rfl, hs', y, rfl⟩ := hrel
    by_cases hkl : k < n
    · have ik : (k : Int) < (n : Int) := by omega
      by_cases hk2 : k < 100
      · have ik2 : (k : Int) < 100 := by omega
        obtain ⟨g, off, rfl, hg, hcell⟩ := hl.some (by omega)
        obtain ⟨c0, c1, c2⟩ := cellTh hlen hcell hkl
        have hmk := hm k hkl
        obtain ⟨p, hp⟩ : ∃ p : Nat, min (nth th0 hs k).n 100000 = p := ⟨_, rfl⟩
        have em : min ((nth th0 hs k).n : Int) 100000 = (p : Int) := by omega
        go_wp2
        go_roundw
        case rel => exact ⟨k + 1, q + p, by omega, by omega, by omega, by go_num, by go_num, by rw [sumT_next (by omega), hs', hp], (by with_reducible repeat (first | exact ex_refl _ | exact ex_more9 | apply ex_alloc | apply ex_plus | apply ex_drew | apply ex_drewN))⟩
        case measure => simp [intOf]; omega
      · have ik2 : ¬ (k : Int) < 100 := by omega
        have i40 : (40 : Int) < (n : Int) := by omega
        go_wp2
        go_ret
        exact ⟨by rw [great_yes (by omega)]; rfl, (by with_reducible repeat (first | exact ex_refl _ | exact ex_more9 | apply ex_alloc | apply ex_plus | apply ex_drew | apply ex_drewN))⟩
    · have ik : ¬ (k : Int) < (n : Int) := by omega
      obtain rfl : n = k := by omega
      by_cases h40 : 40 < n
      · have i40 : (40 : Int) < (n : Int) := by omega
        go_wp2
        go_ret
        exact ⟨by rw [great_yes (by omega)]; rfl, (by with_reducible repeat (first | exact ex_refl _ | exact ex_more9 | apply ex_alloc | apply ex_plus | apply ex_drew | apply ex_drewN))⟩
      · have i40 : ¬ (40 : Int) < (n : Int) := by omega
        by_cases hq2 : 20000 < q
        · have iq : (20000 : Int) < (q : Int) := by omega
          go_wp2
          go_ret
          exact ⟨by rw [great_sum (q := q) (by omega) (by rw [hlen]; exact hs'), decide_eq_true hq2]; rfl, (by with_reducible repeat (first | exact ex_refl _ | exact ex_more9 | apply ex_alloc | apply ex_plus | apply ex_drew | apply ex_drewN))⟩
        · have iq : ¬ (20000 : Int) < (q : Int) := by omega
          go_wp2
          go_ret
          exact ⟨by rw [great_sum (q := q) (by omega) (by rw [hlen]; exact hs'), decide_eq_false hq2]; rfl, (by with_reducible repeat (first | exact ex_refl _ | exact ex_more9 | apply ex_alloc | apply ex_plus | apply ex_drew | apply ex_drewN))⟩

end Go.Proofs.Ytimmbpcoagjcbaa
