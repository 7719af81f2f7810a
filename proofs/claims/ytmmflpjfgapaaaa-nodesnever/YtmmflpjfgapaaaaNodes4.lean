/- What dioramaref06.May, Check and asked give. -/
import Derived.Test.YtmmflpjfgapaaaaNodes3
namespace Go.Proofs.Ytmmflpjfgapaaaa
open Go.RowKit Go.ChangeShapes Go.WideShapes Go.ChangeAt
set_option linter.unusedSimpArgs false
set_option linter.unusedVariables false
attribute [local go_sem] plus_size plus_drew dn_set dn_alloc dn_plus plus_dn cell_plus frozen_plus set_plus cell_alloc frozen_alloc set_alloc

theorem rows_no {g : Gr} {i : Nat} (hi : i < g.ks.length) (h : rowOk g.sl i (nth [] g.ks i) = false) : rowsOk g = false := by
  cases hv : rowsOk g with
  | false => rfl
  | true =>
    have := List.all_eq_true.1 hv i (List.mem_range.2 hi)
    rw [h] at this
    cases this
theorem rows_yes {g : Gr} (h : ∀ i, i < g.ks.length → rowOk g.sl i (nth [] g.ks i) = true) : rowsOk g = true := List.all_eq_true.2 fun i hi => h i (List.mem_range.1 hi)
theorem kin6_of {g : Gr} (h2 : g.ks.length = g.sl.length) (h3 : rowsOk g = true) : Kin6 g := by
  intro i hi x hx
  have := held_lt ((rows_at h3 hi).2.2 x hx)
  omega
theorem aheld_is {ao : Option Addr} {n cap : Nat} {l : List Sl} {s g : Int} {w : World} {b : Bool} (h : heldIn l s g = b) (hl : Lay fS w ao n l) (hn : n ≤ 1000) :
    Calls Try.prog 75 #[.agg #[.slice ao n cap], .agg #[.int .i64 s, .int .i64 g]] w fun e w' => e = .returned (.bool b) ∧ Below w.heap.size w w' := by
  subst h
  exact aheld_calls ao n cap l s g w hl (by omega)

set_option maxRecDepth 100000 in
set_option maxHeartbeats 8000000 in
theorem gmay_calls (ao : Option Addr) (n cap : Nat) (ko : Option Addr) (kn kcap : Nat) (hs : List RH) (g : Gr) (w : World) (hG : GrAt w ao n ko kn hs g) :
    Calls Try.prog 50 #[.agg #[.slice ao n cap, .slice ko kn kcap]] w fun e w' => e = .returned (.bool (grOk g)) ∧ Below w.heap.size w w' := by
  have hlen := hG.kl
  have hkh := hG.kh.len
  have hsl := hG.sl.len
  have b1 := hG.n1
  have b3 := hG.n2
  cases hO : arOk g.sl
  · rw [show grOk g = false by rw [grOk, hO]; rfl]
    go_enter Try.func50, Try.ntmps50
    go_wp2_with (go_at_call 74; refine (plus_post (amay_calls _ _ _ g.sl _ (hG.sl.ex (by with_reducible repeat (first | exact ex_refl _ | exact ex_more | apply ex_alloc | apply ex_plus | apply ex_drew | apply ex_drewN))) (by omega))).mono ?_; rintro e w' ⟨rfl, nx, rfl⟩; rw [hO])
    go_ret
    exact ⟨rfl, by with_reducible repeat (first | exact Below.refl _ _ | apply ba | apply bp | apply bd | apply bn)⟩
  by_cases hne : kn = n
  rotate_left
  · rw [show grOk g = false by rw [grOk, decide_eq_false (show ¬ g.ks.length = g.sl.length by omega), Bool.and_false, Bool.false_and]]
    have ine : ¬ (kn : Int) = (n : Int) := by omega
    have dne : ((kn : Int) == (n : Int)) = false := by rw [beq_eq_false_iff_ne]; omega
    go_enter Try.func50, Try.ntmps50
    go_wp2_with (go_at_call 74; refine (plus_post (amay_calls _ _ _ g.sl _ (hG.sl.ex (by with_reducible repeat (first | exact ex_refl _ | exact ex_more | apply ex_alloc | apply ex_plus | apply ex_drew | apply ex_drewN))) (by omega))).mono ?_; rintro e w' ⟨rfl, nx, rfl⟩; rw [hO])
    go_ret
    exact ⟨rfl, by with_reducible repeat (first | exact Below.refl _ _ | apply ba | apply bp | apply bd | apply bn)⟩
  subst hne
  have hle : g.ks.length = g.sl.length := by omega
  rw [show grOk g = (rowsOk g && looseB g) by rw [grOk, hO, decide_eq_true hle]; rfl]
  go_enter Try.func50, Try.ntmps50
  go_wp2_with (go_at_call 74; refine (plus_post (amay_calls _ _ _ g.sl _ (hG.sl.ex (by with_reducible repeat (first | exact ex_refl _ | exact ex_more | apply ex_alloc | apply ex_plus | apply ex_drew | apply ex_drewN))) (by omega))).mono ?_; rintro e w' ⟨rfl, nx, rfl⟩; rw [hO])
  go_loopw [3] (fun i_ wr => ∃ i : Nat, i ≤ kn ∧ i_ = .int .i64 i ∧ (∀ j, j < i → rowOk g.sl j (nth [] g.ks j) = true) ∧ ∃ x, wr = plus (plus (w.alloc (.cells #[.slice ao kn cap, .slice ko kn kcap] 27)) nx) x) (fun i _ => kn - (intOf i).toNat)
  case atStart => exact ⟨0, Nat.zero_le _, rfl, fun j hj => by omega, (by with_reducible repeat (first | exact ex_refl _ | exact ex_more | apply ex_alloc | apply ex_plus | apply ex_drew | apply ex_drewN))⟩
  case round =>
    obtain ⟨i, hi, rfl, hrows, x, rfl⟩ := hrel
    by_cases hil : i < kn
    rotate_left
    · have ii : ¬ (i : Int) < (kn : Int) := by omega
      have hR : rowsOk g = true := rows_yes fun j hj => hrows j (by omega)
      go_wp2_with (go_at_call 76; refine (plus_post (loose_calls _ _ _ _ _ _ hs g _ (hG.ex (by with_reducible repeat (first | exact ex_refl _ | exact ex_more | apply ex_alloc | apply ex_plus | apply ex_drew | apply ex_drewN))) (kin6_of hle hR))).mono ?_; rintro e w' ⟨rfl, nl, rfl⟩)
      go_ret
      exact ⟨by first | rfl | (rw [hR, Bool.true_and]; rfl), by with_reducible repeat (first | exact Below.refl _ _ | apply ba | apply bp | apply bd | apply bn)⟩
    have ii : (i : Int) < (kn : Int) := by omega
    obtain ⟨kg, kf, rfl, hkg, hkc⟩ := hG.kh.some (by omega)
    obtain ⟨sg, sf, rfl, hsg, hsc⟩ := hG.sl.some (by omega)
    have c1 := cellR hkh hkc hil
    obtain ⟨v0, v1⟩ := cellS hsl hsc hil
    have hrow := hG.row i (by omega)
    have hrl := hrow.len
    have hn3 := hG.n3 i (by omega)
    by_cases h16 : 16 < (nth dRH hs i).n
    · have i16 : (16 : Int) < ((nth dRH hs i).n : Int) := by omega
      have hno : rowsOk g = false := rows_no (i := i) (by omega) (by rw [rowOk, decide_eq_false (by omega), Bool.false_and])
      go_wp2
      go_ret
      exact ⟨by first | rfl | (rw [hno, Bool.false_and]; rfl), by with_reducible repeat (first | exact Below.refl _ _ | apply ba | apply bp | apply bd | apply bn)⟩
    have i16 : ¬ (16 : Int) < ((nth dRH hs i).n : Int) := by omega
    have d16 := decide_eq_false i16
    have hcond : (nth dRH hs i).n = 0 ∨ (nth dSl g.sl i).live = true ∨ ((nth dSl g.sl i).live = false ∧ 0 < (nth dRH hs i).n) := by
      by_cases h0 : (nth dRH hs i).n = 0
      · exact .inl h0
      · cases hv : (nth dSl g.sl i).live
        · exact .inr (.inr ⟨rfl, by omega⟩)
        · exact .inr (.inl rfl)
    rcases hcond with h0 | hv | ⟨hv, h0⟩
    rotate_right
    · rw [hv] at v1
      have i0 : (0 : Int) < ((nth dRH hs i).n : Int) := by omega
      have hno : rowsOk g = false := rows_no (i := i) (by omega) (by rw [rowOk, hv, decide_eq_false (show ¬ (nth [] g.ks i).length = 0 by omega)]; simp)
      go_wp2
      go_ret
      exact ⟨by first | rfl | (rw [hno, Bool.false_and]; rfl), by with_reducible repeat (first | exact Below.refl _ _ | apply ba | apply bp | apply bd | apply bn)⟩
    · have i0 : ¬ (0 : Int) < ((nth dRH hs i).n : Int) := by omega
      have d0 : decide (0 < (nth dRH hs i).n) = false := decide_eq_false (by omega)
      have ik : ¬ (0 : Int) < ((nth dRH hs i).n : Int) := i0
      have hok : rowOk g.sl i (nth [] g.ks i) = true := by
        have e : nth [] g.ks i = [] := List.eq_nil_of_length_eq_zero (by omega)
        rw [e]
        rfl
      clear h0
      go_wp2
      go_loopw [4] (fun k_ wz => ∃ k : Nat, k ≤ (nth dRH hs i).n ∧ k_ = .int .i64 k ∧ (∀ j, j < k → heldIn g.sl (nth (0, 0) (nth [] g.ks i) j).1 (nth (0, 0) (nth [] g.ks i) j).2 = true) ∧ ∃ y, wz = plus (plus (plus (w.alloc (.cells #[.slice (some ⟨sg, sf, none⟩) kn cap, .slice (some ⟨kg, kf, none⟩) kn kcap] 27)) nx) x) y) (fun k_ _ => (nth dRH hs i).n - (intOf k_).toNat)
      case atStart => exact ⟨0, Nat.zero_le _, rfl, fun j hj => by omega, (by with_reducible repeat (first | exact ex_refl _ | exact ex_more | apply ex_alloc | apply ex_plus | apply ex_drew | apply ex_drewN))⟩
      case round =>
        obtain ⟨k, hk, rfl, hh, y, rfl⟩ := hrel
        obtain rfl : k = 0 := by omega
        have ikk : ¬ ((0 : Nat) : Int) < ((nth dRH hs i).n : Int) := by omega
        go_wp2
        go_roundw
        case rel => exact ⟨i + 1, by omega, by go_num, upto_succ hrows hok, (by with_reducible repeat (first | exact ex_refl _ | exact ex_more | apply ex_alloc | apply ex_plus | apply ex_drew | apply ex_drewN))⟩
        case measure => simp [intOf]; omega
    · rw [hv] at v1
      have hpre : rowOk g.sl i (nth [] g.ks i) = (nth [] g.ks i).all fun h => heldIn g.sl h.1 h.2 := by
        rw [rowOk, hv, decide_eq_true (show (nth [] g.ks i).length ≤ 16 by omega), Bool.or_true, Bool.true_and, Bool.true_and]
      by_cases hz : 0 < (nth dRH hs i).n
      · have i0 : (0 : Int) < ((nth dRH hs i).n : Int) := by omega
        have d0 : decide (0 < (nth dRH hs i).n) = true := decide_eq_true hz
        go_wp2
        go_loopw [4] (fun k_ wz => ∃ k : Nat, k ≤ (nth dRH hs i).n ∧ k_ = .int .i64 k ∧ (∀ j, j < k → heldIn g.sl (nth (0, 0) (nth [] g.ks i) j).1 (nth (0, 0) (nth [] g.ks i) j).2 = true) ∧ ∃ y, wz = plus (plus (plus (w.alloc (.cells #[.slice (some ⟨sg, sf, none⟩) kn cap, .slice (some ⟨kg, kf, none⟩) kn kcap] 27)) nx) x) y) (fun k_ _ => (nth dRH hs i).n - (intOf k_).toNat)
        case atStart => exact ⟨0, Nat.zero_le _, rfl, fun j hj => by omega, (by with_reducible repeat (first | exact ex_refl _ | exact ex_more | apply ex_alloc | apply ex_plus | apply ex_drew | apply ex_drewN))⟩
        case round =>
          obtain ⟨k, hk, rfl, hh, y, rfl⟩ := hrel
          by_cases hkl : k < (nth dRH hs i).n
          rotate_left
          · have ikk : ¬ (k : Int) < ((nth dRH hs i).n : Int) := by omega
            have hok : rowOk g.sl i (nth [] g.ks i) = true := by
              rw [hpre]
              exact all_yes (d := ((0, 0) : Int × Int)) (fun j hj => hh j (by omega))
            go_wp2
            go_roundw
            case rel => exact ⟨i + 1, by omega, by go_num, upto_succ hrows hok, (by with_reducible repeat (first | exact ex_refl _ | exact ex_more | apply ex_alloc | apply ex_plus | apply ex_drew | apply ex_drewN))⟩
            case measure => simp [intOf]; omega
          have ikk : (k : Int) < ((nth dRH hs i).n : Int) := by omega
          obtain ⟨rg, ro, hra, hrg, hrc⟩ := hrow.some (by omega)
          obtain ⟨x0, x1⟩ := cell2 hrl hrc hkl
          rw [hra] at c1
          cases hq : heldIn g.sl (nth (0, 0) (nth [] g.ks i) k).1 (nth (0, 0) (nth [] g.ks i) k).2
          · have hno : rowsOk g = false := rows_no (i := i) (by omega) (by rw [hpre]; exact all_not (d := ((0, 0) : Int × Int)) (k := k) (by omega) hq)
            go_wp2
            refine region_plus (by kernel_rfl) (by kernel_rfl) ?_
            (repeat (go_big_quiet_step ((go_at_call 75; exact plus_of (aheld_is hq (hG.sl.ex (by with_reducible repeat (first | exact ex_refl _ | exact ex_more | apply ex_alloc | apply ex_plus | apply ex_drew | apply ex_drewN))) (by omega))))))
            refine wpQuiet_nil ?_
            rintro _ ⟨x2, rfl⟩
            go_wp2
            go_ret
            exact ⟨by first | rfl | (rw [hno, Bool.false_and]; rfl), by with_reducible repeat (first | exact Below.refl _ _ | apply ba | apply bp | apply bd | apply bn)⟩
          · go_wp2
            refine region_plus (by kernel_rfl) (by kernel_rfl) ?_
            (repeat (go_big_quiet_step ((go_at_call 75; exact plus_of (aheld_is hq (hG.sl.ex (by with_reducible repeat (first | exact ex_refl _ | exact ex_more | apply ex_alloc | apply ex_plus | apply ex_drew | apply ex_drewN))) (by omega))))))
            refine wpQuiet_nil ?_
            rintro _ ⟨x2, rfl⟩
            go_wp2
            go_roundw
            case rel => exact ⟨k + 1, by omega, by go_num, upto_succ hh hq, (by with_reducible repeat (first | exact ex_refl _ | exact ex_more | apply ex_alloc | apply ex_plus | apply ex_drew | apply ex_drewN))⟩
            case measure => simp [intOf]; omega
      · have i0 : ¬ (0 : Int) < ((nth dRH hs i).n : Int) := by omega
        have d0 : decide (0 < (nth dRH hs i).n) = false := decide_eq_false hz
        have hok : rowOk g.sl i (nth [] g.ks i) = true := by
          have e : nth [] g.ks i = [] := List.eq_nil_of_length_eq_zero (by omega)
          rw [hpre, e]
          rfl
        go_wp2
        go_loopw [4] (fun k_ wz => ∃ k : Nat, k ≤ (nth dRH hs i).n ∧ k_ = .int .i64 k ∧ (∀ j, j < k → heldIn g.sl (nth (0, 0) (nth [] g.ks i) j).1 (nth (0, 0) (nth [] g.ks i) j).2 = true) ∧ ∃ y, wz = plus (plus (plus (w.alloc (.cells #[.slice (some ⟨sg, sf, none⟩) kn cap, .slice (some ⟨kg, kf, none⟩) kn kcap] 27)) nx) x) y) (fun k_ _ => (nth dRH hs i).n - (intOf k_).toNat)
        case atStart => exact ⟨0, Nat.zero_le _, rfl, fun j hj => by omega, (by with_reducible repeat (first | exact ex_refl _ | exact ex_more | apply ex_alloc | apply ex_plus | apply ex_drew | apply ex_drewN))⟩
        case round =>
          obtain ⟨k, hk, rfl, hh, y, rfl⟩ := hrel
          obtain rfl : k = 0 := by omega
          have ikk : ¬ ((0 : Nat) : Int) < ((nth dRH hs i).n : Int) := by omega
          go_wp2
          go_roundw
          case rel => exact ⟨i + 1, by omega, by go_num, upto_succ hrows hok, (by with_reducible repeat (first | exact ex_refl _ | exact ex_more | apply ex_alloc | apply ex_plus | apply ex_drew | apply ex_drewN))⟩
          case measure => simp [intOf]; omega

theorem gcheck_calls (ao : Option Addr) (n cap : Nat) (ko : Option Addr) (kn kcap : Nat) (hs : List RH) (g : Gr) (w : World) (hG : GrAt w ao n ko kn hs g) :
    Calls Try.prog 25 #[.agg #[.slice ao n cap, .slice ko kn kcap]] w fun e w' => e = .returned (.int .i64 (grErr g)) ∧ Below w.heap.size w w' := by
  cases hO : grOk g
  · rw [show grErr g = 8 by rw [grErr, hO]; rfl]
    go_enter Try.func25, Try.ntmps25
    go_wp2_with (go_at_call 50; refine (plus_post (gmay_calls _ _ _ _ _ _ hs g _ (hG.ex (by with_reducible repeat (first | exact ex_refl _ | exact ex_more | apply ex_alloc | apply ex_plus | apply ex_drew | apply ex_drewN))))).mono ?_; rintro e w' ⟨rfl, nx, rfl⟩; rw [hO])
    go_ret
    exact ⟨rfl, by with_reducible repeat (first | exact Below.refl _ _ | apply ba | apply bp | apply bd | apply bn)⟩
  · rw [show grErr g = 0 by rw [grErr, hO]; rfl]
    go_enter Try.func25, Try.ntmps25
    go_wp2_with (go_at_call 50; refine (plus_post (gmay_calls _ _ _ _ _ _ hs g _ (hG.ex (by with_reducible repeat (first | exact ex_refl _ | exact ex_more | apply ex_alloc | apply ex_plus | apply ex_drew | apply ex_drewN))))).mono ?_; rintro e w' ⟨rfl, nx, rfl⟩; rw [hO])
    go_ret
    exact ⟨rfl, by with_reducible repeat (first | exact Below.refl _ _ | apply ba | apply bp | apply bd | apply bn)⟩

set_option maxHeartbeats 4000000 in
theorem asked_calls (ao : Option Addr) (n cap : Nat) (ko : Option Addr) (kn kcap : Nat) (hs : List RH) (g : Gr) (h1 h2 i1 i2 : Int) (w : World) (hG : GrAt w ao n ko kn hs g) :
    Calls Try.prog 52 #[.agg #[.slice ao n cap, .slice ko kn kcap], .agg #[.int .i64 h1, .int .i64 h2], .agg #[.int .i64 i1, .int .i64 i2]] w fun e w' => e = .returned (.int .i64 (askErr g (h1, h2) (i1, i2))) ∧ Below w.heap.size w w' := by
  have b1 := hG.n1
  cases hO : grOk g
  · rw [show askErr g (h1, h2) (i1, i2) = 8 by rw [askErr, hO]; rfl]
    go_enter Try.func52, Try.ntmps52
    go_wp2_with (go_at_call 50; refine (plus_post (gmay_calls _ _ _ _ _ _ hs g _ (hG.ex (by with_reducible repeat (first | exact ex_refl _ | exact ex_more | apply ex_alloc | apply ex_plus | apply ex_drew | apply ex_drewN))))).mono ?_; rintro e w' ⟨rfl, nx, rfl⟩; rw [hO])
    go_ret
    exact ⟨rfl, by with_reducible repeat (first | exact Below.refl _ _ | apply ba | apply bp | apply bd | apply bn)⟩
  cases hA : heldIn g.sl h1 h2
  · rw [show askErr g (h1, h2) (i1, i2) = 50 by rw [askErr, hO, if_pos rfl, if_neg (by rw [hA]; simp)]]
    go_enter Try.func52, Try.ntmps52
    go_wp2_with (first | (go_at_call 50; refine (plus_post (gmay_calls _ _ _ _ _ _ hs g _ (hG.ex (by with_reducible repeat (first | exact ex_refl _ | exact ex_more | apply ex_alloc | apply ex_plus | apply ex_drew | apply ex_drewN))))).mono ?_; rintro e w' ⟨rfl, nx, rfl⟩; rw [hO]) | (go_at_call 75; refine (plus_post (aheld_is (by first | exact hA | exact hB) (hG.sl.ex (by with_reducible repeat (first | exact ex_refl _ | exact ex_more | apply ex_alloc | apply ex_plus | apply ex_drew | apply ex_drewN))) (by omega))).mono ?_; rintro e w' ⟨rfl, nx, rfl⟩))
    go_ret
    exact ⟨rfl, by with_reducible repeat (first | exact Below.refl _ _ | apply ba | apply bp | apply bd | apply bn)⟩
  cases hB : heldIn g.sl i1 i2
  · rw [show askErr g (h1, h2) (i1, i2) = 50 by rw [askErr, hO, if_pos rfl, if_neg (by rw [hB]; simp)]]
    go_enter Try.func52, Try.ntmps52
    go_wp2_with (first | (go_at_call 50; refine (plus_post (gmay_calls _ _ _ _ _ _ hs g _ (hG.ex (by with_reducible repeat (first | exact ex_refl _ | exact ex_more | apply ex_alloc | apply ex_plus | apply ex_drew | apply ex_drewN))))).mono ?_; rintro e w' ⟨rfl, nx, rfl⟩; rw [hO]) | (go_at_call 75; refine (plus_post (aheld_is (by first | exact hA | exact hB) (hG.sl.ex (by with_reducible repeat (first | exact ex_refl _ | exact ex_more | apply ex_alloc | apply ex_plus | apply ex_drew | apply ex_drewN))) (by omega))).mono ?_; rintro e w' ⟨rfl, nx, rfl⟩))
    go_ret
    exact ⟨rfl, by with_reducible repeat (first | exact Below.refl _ _ | apply ba | apply bp | apply bd | apply bn)⟩
  · rw [show askErr g (h1, h2) (i1, i2) = 0 by rw [askErr, hO, if_pos rfl, if_pos ⟨hA, hB⟩]]
    go_enter Try.func52, Try.ntmps52
    go_wp2_with (first | (go_at_call 50; refine (plus_post (gmay_calls _ _ _ _ _ _ hs g _ (hG.ex (by with_reducible repeat (first | exact ex_refl _ | exact ex_more | apply ex_alloc | apply ex_plus | apply ex_drew | apply ex_drewN))))).mono ?_; rintro e w' ⟨rfl, nx, rfl⟩; rw [hO]) | (go_at_call 75; refine (plus_post (aheld_is (by first | exact hA | exact hB) (hG.sl.ex (by with_reducible repeat (first | exact ex_refl _ | exact ex_more | apply ex_alloc | apply ex_plus | apply ex_drew | apply ex_drewN))) (by omega))).mono ?_; rintro e w' ⟨rfl, nx, rfl⟩))
    go_ret
    exact ⟨rfl, by with_reducible repeat (first | exact Below.refl _ _ | apply ba | apply bp | apply bd | apply bn)⟩

end Go.Proofs.Ytmmflpjfgapaaaa
