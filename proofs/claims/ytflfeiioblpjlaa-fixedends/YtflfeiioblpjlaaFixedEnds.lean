/- FixedEnds is proved: a span that Add, Scale, Div or Join tells has both its ends from numbers of the spans that were handed in: the call returns true for any spans and number. No condition. -/
import Derived.Test.YtflfeiioblpjlaaLaw
import Derived.Test.YtflfeiioblpjlaaFixed3
import Derived.Deep.DeepCutAuto
namespace Go.Proofs.Ytflfeiioblpjlaa
open Go.RowKit Go.ChangeShapes Go.WideShapes Go.ChangeAt
set_option linter.unusedSimpArgs false
set_option linter.unusedVariables false
attribute [local go_sem] plus_size plus_drew dn_set dn_alloc dn_plus plus_dn cell_plus frozen_plus set_plus cell_alloc frozen_alloc set_alloc

theorem part (n : Int) : n = 0 ∨ (n == 0) = false := by
  by_cases h : n = 0
  · exact .inl h
  · exact .inr (by simpa using h)

theorem add_ends {a b c d : Int} (e : (add a b c d).2.2 = 0) : add a b c d = (a + c, b + d, 0) ∧ (-1099511627776 ≤ a ∧ b ≤ 1099511627776 ∧ a ≤ b) ∧ -1099511627776 ≤ c ∧ d ≤ 1099511627776 ∧ c ≤ d := by
  rcases chk_or a b with ⟨h1, g1⟩ | ⟨h1, g1⟩ <;> rcases chk_or c d with ⟨h2, g2⟩ | ⟨h2, g2⟩ <;> simp [add, h1, h2] at e
  refine ⟨?_, g1, g2⟩
  rcases chk_or (a + c) (b + d) with ⟨h3, g3⟩ | ⟨h3, g3⟩
  · simp [add, h1, h2, rng_yes h3]
  · simp [rng_no h3] at e

theorem scale_ends {a b k : Int} (e : (scale a b k).2.2 = 0) : scale a b k = (min (k * a) (k * b), max (k * a) (k * b), 0) ∧ (-1152921504606846976 ≤ k * a ∧ k * a ≤ 1152921504606846976) ∧ -1152921504606846976 ≤ k * b ∧ k * b ≤ 1152921504606846976 := by
  rcases chk_or a b with ⟨h1, g1⟩ | ⟨h1, g1⟩ <;> by_cases hk : -1048576 ≤ k ∧ k ≤ 1048576 <;> simp [scale, h1, hk] at e
  refine ⟨?_, mul_bd hk.1 hk.2 (by omega) (by omega), mul_bd hk.1 hk.2 (by omega) (by omega)⟩
  rcases chk_or (min (k * a) (k * b)) (max (k * a) (k * b)) with ⟨h3, g3⟩ | ⟨h3, g3⟩
  · simp [scale, h1, hk, rng_yes h3]
  · simp [rng_no h3] at e

theorem quo_ends {a b k : Int} (e : (quo a b k).2.2 = 0) : quo a b k = (a / k, b / k, 0) ∧ flo a k = (a / k, 0) ∧ flo b k = (b / k, 0) := by
  rcases chk_or a b with ⟨h1, g1⟩ | ⟨h1, g1⟩ <;> by_cases hk : 1 ≤ k ∧ k ≤ 1099511627776 <;> simp [quo, h1, hk] at e
  simp [quo, h1, hk, flo]

theorem join_ends {a b c d : Int} (e : (join a b c d).2.2 = 0) : join a b c d = (min a c, max b d, 0) := by
  rcases chk_or a b with ⟨h1, g1⟩ | ⟨h1, g1⟩ <;> rcases chk_or c d with ⟨h2, g2⟩ | ⟨h2, g2⟩ <;> simp [join, h1, h2] at e
  simp [join, h1, h2]

set_option maxHeartbeats 4000000 in
set_option maxRecDepth 100000 in
theorem fixedEnds_walk (a b c d k : Int) (_ : -9223372036854775808 ≤ a) (_ : a ≤ 9223372036854775807) (_ : -9223372036854775808 ≤ b) (_ : b ≤ 9223372036854775807) (_ : -9223372036854775808 ≤ c) (_ : c ≤ 9223372036854775807) (_ : -9223372036854775808 ≤ d) (_ : d ≤ 9223372036854775807) (_ : -9223372036854775808 ≤ k) (_ : k ≤ 9223372036854775807) (w : World) :
    Calls Try.prog 7 #[.agg #[.int .i64 a, .int .i64 b], .agg #[.int .i64 c, .int .i64 d], .int .i64 k] w fun e w' => e = .returned (.bool true) ∧ Below w.heap.size w w' := by
  go_enter Try.func7, Try.ntmps7
  go_upto_region 5 with (first | (go_at_call 15; refine (plus_post (alive_calls _)).mono ?_; rintro e w' ⟨rfl, x0, rfl⟩) | (go_at_call 10; refine (plus_post (add_calls _ _ _ _ _)).mono ?_; rintro e w' ⟨rfl, x1, rfl⟩) | (go_at_call 12; refine (plus_post (scale_calls _ _ _ _)).mono ?_; rintro e w' ⟨rfl, x2, rfl⟩) | (go_at_call 13; refine (plus_post (div_calls _ _ _ _)).mono ?_; rintro e w' ⟨rfl, x3, rfl⟩) | (go_at_call 8; refine (plus_post (floor_calls _ _ (by omega) (by omega) _)).mono ?_; rintro e w' ⟨rfl, x4, rfl⟩) | (go_at_call 14; refine (plus_post (join_calls _ _ _ _ _)).mono ?_; rintro e w' ⟨rfl, x6, rfl⟩))
  go_cut [9, 44] (fun _ s wx => s = .bool false ∧ wx = (plus (plus ((w.alloc (.cells #[.int .i64 a, .int .i64 b] 26)).alloc (.cells #[.int .i64 c, .int .i64 d] 26)) x0) x1).alloc (.cells #[.int .i64 (add a b c d).1, .int .i64 (add a b c d).2.1] 26))
  case first =>
    rcases part (add a b c d).2.2 with e | e
    · obtain ⟨e2, g1, g2⟩ := add_ends e
      go_wp2
      go_meet
      case rel => exact ⟨rfl, by rw [e2]⟩
    · go_wp2
      go_meet
      case rel => exact ⟨rfl, rfl⟩
  case rest =>
    obtain ⟨rfl, rfl⟩ := hcut
    go_upto_region 8 with (first | (go_at_call 15; refine (plus_post (alive_calls _)).mono ?_; rintro e w' ⟨rfl, x0, rfl⟩) | (go_at_call 10; refine (plus_post (add_calls _ _ _ _ _)).mono ?_; rintro e w' ⟨rfl, x1, rfl⟩) | (go_at_call 12; refine (plus_post (scale_calls _ _ _ _)).mono ?_; rintro e w' ⟨rfl, x2, rfl⟩) | (go_at_call 13; refine (plus_post (div_calls _ _ _ _)).mono ?_; rintro e w' ⟨rfl, x3, rfl⟩) | (go_at_call 8; refine (plus_post (floor_calls _ _ (by omega) (by omega) _)).mono ?_; rintro e w' ⟨rfl, x4, rfl⟩) | (go_at_call 14; refine (plus_post (join_calls _ _ _ _ _)).mono ?_; rintro e w' ⟨rfl, x6, rfl⟩))
    go_cut [9, 95] (fun _ s wx => s = .bool false ∧ wx = plus ((plus (plus ((w.alloc (.cells #[.int .i64 a, .int .i64 b] 26)).alloc (.cells #[.int .i64 c, .int .i64 d] 26)) x0) x1).alloc (.cells #[.int .i64 (scale a b k).1, .int .i64 (scale a b k).2.1] 26)) x2)
    case first =>
      rcases part (scale a b k).2.2 with e | e
      · obtain ⟨e2, g1, g2⟩ := scale_ends e
        by_cases h1 : k * a < k * b
        · rw [Int.min_eq_left (by omega), Int.max_eq_right (by omega)] at e2
          have hd : decide (k * b < k * a) = false := by simp; omega
          go_wp2
          go_meet
          case rel => exact ⟨rfl, by rw [e2]⟩
        · by_cases h2 : k * b < k * a
          · rw [Int.min_eq_right (by omega), Int.max_eq_left (by omega)] at e2
            have hd : decide (k * a < k * b) = false := by simp; omega
            go_wp2
            go_meet
            case rel => exact ⟨rfl, by rw [e2]⟩
          · have h3 : k * b = k * a := by omega
            rw [h3, Int.min_eq_left (by omega), Int.max_eq_right (by omega)] at e2
            go_wp2
            go_meet
            case rel => exact ⟨rfl, by rw [e2]⟩
      · go_wp2
        go_meet
        case rel => exact ⟨rfl, rfl⟩
    case rest =>
      obtain ⟨rfl, rfl⟩ := hcut
      go_upto_region 13 with (first | (go_at_call 15; refine (plus_post (alive_calls _)).mono ?_; rintro e w' ⟨rfl, x0, rfl⟩) | (go_at_call 10; refine (plus_post (add_calls _ _ _ _ _)).mono ?_; rintro e w' ⟨rfl, x1, rfl⟩) | (go_at_call 12; refine (plus_post (scale_calls _ _ _ _)).mono ?_; rintro e w' ⟨rfl, x2, rfl⟩) | (go_at_call 13; refine (plus_post (div_calls _ _ _ _)).mono ?_; rintro e w' ⟨rfl, x3, rfl⟩) | (go_at_call 8; refine (plus_post (floor_calls _ _ (by omega) (by omega) _)).mono ?_; rintro e w' ⟨rfl, x4, rfl⟩) | (go_at_call 14; refine (plus_post (join_calls _ _ _ _ _)).mono ?_; rintro e w' ⟨rfl, x6, rfl⟩))
      go_cut [9, 10, 11, 12, 13, 137] (fun _ _ _ _ _ s wx => s = .bool false ∧ ∃ y z, wx = plus (plus (plus (plus ((plus (plus ((w.alloc (.cells #[.int .i64 a, .int .i64 b] 26)).alloc (.cells #[.int .i64 c, .int .i64 d] 26)) x0) x1).alloc (.cells #[.int .i64 (quo a b k).1, .int .i64 (quo a b k).2.1] 26)) x2) x3) y) z)
      case first =>
        rcases part (quo a b k).2.2 with e | e
        · obtain ⟨e2, g1, g2⟩ := quo_ends e
          go_wp2
          go_meet
          case rel => exact ⟨rfl, _, _, by rw [e2]⟩
        · go_wp2
          go_meet
          case rel => exact ⟨rfl, _, _, rfl⟩
      case rest =>
        obtain ⟨rfl, y, z, rfl⟩ := hcut
        rcases part (join a b c d).2.2 with e | e
        · have e2 := join_ends e
          by_cases h1 : a ≤ c
          · by_cases h2 : d ≤ b
            · rw [Int.min_eq_left (by omega), Int.max_eq_left (by omega)] at e2
              go_wp2_with (first | (go_at_call 15; refine (plus_post (alive_calls _)).mono ?_; rintro e w' ⟨rfl, x0, rfl⟩) | (go_at_call 10; refine (plus_post (add_calls _ _ _ _ _)).mono ?_; rintro e w' ⟨rfl, x1, rfl⟩) | (go_at_call 12; refine (plus_post (scale_calls _ _ _ _)).mono ?_; rintro e w' ⟨rfl, x2, rfl⟩) | (go_at_call 13; refine (plus_post (div_calls _ _ _ _)).mono ?_; rintro e w' ⟨rfl, x3, rfl⟩) | (go_at_call 8; refine (plus_post (floor_calls _ _ (by omega) (by omega) _)).mono ?_; rintro e w' ⟨rfl, x4, rfl⟩) | (go_at_call 14; refine (plus_post (join_calls _ _ _ _ _)).mono ?_; rintro e w' ⟨rfl, x6, rfl⟩))
              go_ret
              exact ⟨rfl, by with_reducible repeat (first | exact Below.refl _ _ | apply ba | apply bp | apply bd | apply bn)⟩
            · rw [Int.min_eq_left (by omega), Int.max_eq_right (by omega)] at e2
              go_wp2_with (first | (go_at_call 15; refine (plus_post (alive_calls _)).mono ?_; rintro e w' ⟨rfl, x0, rfl⟩) | (go_at_call 10; refine (plus_post (add_calls _ _ _ _ _)).mono ?_; rintro e w' ⟨rfl, x1, rfl⟩) | (go_at_call 12; refine (plus_post (scale_calls _ _ _ _)).mono ?_; rintro e w' ⟨rfl, x2, rfl⟩) | (go_at_call 13; refine (plus_post (div_calls _ _ _ _)).mono ?_; rintro e w' ⟨rfl, x3, rfl⟩) | (go_at_call 8; refine (plus_post (floor_calls _ _ (by omega) (by omega) _)).mono ?_; rintro e w' ⟨rfl, x4, rfl⟩) | (go_at_call 14; refine (plus_post (join_calls _ _ _ _ _)).mono ?_; rintro e w' ⟨rfl, x6, rfl⟩))
              go_ret
              exact ⟨rfl, by with_reducible repeat (first | exact Below.refl _ _ | apply ba | apply bp | apply bd | apply bn)⟩
          · by_cases h2 : d ≤ b
            · rw [Int.min_eq_right (by omega), Int.max_eq_left (by omega)] at e2
              go_wp2_with (first | (go_at_call 15; refine (plus_post (alive_calls _)).mono ?_; rintro e w' ⟨rfl, x0, rfl⟩) | (go_at_call 10; refine (plus_post (add_calls _ _ _ _ _)).mono ?_; rintro e w' ⟨rfl, x1, rfl⟩) | (go_at_call 12; refine (plus_post (scale_calls _ _ _ _)).mono ?_; rintro e w' ⟨rfl, x2, rfl⟩) | (go_at_call 13; refine (plus_post (div_calls _ _ _ _)).mono ?_; rintro e w' ⟨rfl, x3, rfl⟩) | (go_at_call 8; refine (plus_post (floor_calls _ _ (by omega) (by omega) _)).mono ?_; rintro e w' ⟨rfl, x4, rfl⟩) | (go_at_call 14; refine (plus_post (join_calls _ _ _ _ _)).mono ?_; rintro e w' ⟨rfl, x6, rfl⟩))
              go_ret
              exact ⟨rfl, by with_reducible repeat (first | exact Below.refl _ _ | apply ba | apply bp | apply bd | apply bn)⟩
            · rw [Int.min_eq_right (by omega), Int.max_eq_right (by omega)] at e2
              go_wp2_with (first | (go_at_call 15; refine (plus_post (alive_calls _)).mono ?_; rintro e w' ⟨rfl, x0, rfl⟩) | (go_at_call 10; refine (plus_post (add_calls _ _ _ _ _)).mono ?_; rintro e w' ⟨rfl, x1, rfl⟩) | (go_at_call 12; refine (plus_post (scale_calls _ _ _ _)).mono ?_; rintro e w' ⟨rfl, x2, rfl⟩) | (go_at_call 13; refine (plus_post (div_calls _ _ _ _)).mono ?_; rintro e w' ⟨rfl, x3, rfl⟩) | (go_at_call 8; refine (plus_post (floor_calls _ _ (by omega) (by omega) _)).mono ?_; rintro e w' ⟨rfl, x4, rfl⟩) | (go_at_call 14; refine (plus_post (join_calls _ _ _ _ _)).mono ?_; rintro e w' ⟨rfl, x6, rfl⟩))
              go_ret
              exact ⟨rfl, by with_reducible repeat (first | exact Below.refl _ _ | apply ba | apply bp | apply bd | apply bn)⟩
        · have e' : ((join a b c d).2.2 != 0) = true := by simp [bne, e]
          go_wp2_with (first | (go_at_call 15; refine (plus_post (alive_calls _)).mono ?_; rintro e w' ⟨rfl, x0, rfl⟩) | (go_at_call 10; refine (plus_post (add_calls _ _ _ _ _)).mono ?_; rintro e w' ⟨rfl, x1, rfl⟩) | (go_at_call 12; refine (plus_post (scale_calls _ _ _ _)).mono ?_; rintro e w' ⟨rfl, x2, rfl⟩) | (go_at_call 13; refine (plus_post (div_calls _ _ _ _)).mono ?_; rintro e w' ⟨rfl, x3, rfl⟩) | (go_at_call 8; refine (plus_post (floor_calls _ _ (by omega) (by omega) _)).mono ?_; rintro e w' ⟨rfl, x4, rfl⟩) | (go_at_call 14; refine (plus_post (join_calls _ _ _ _ _)).mono ?_; rintro e w' ⟨rfl, x6, rfl⟩))
          go_ret
          exact ⟨rfl, by with_reducible repeat (first | exact Below.refl _ _ | apply ba | apply bp | apply bd | apply bn)⟩

set_option maxRecDepth 100000 in
theorem fixedEnds_lifted (os : Os) (started : os.Started) (H : Type) (enc : TypeId × Value → H) :
    ReturnsInHanded {} Try.checked os 7 .any (Rows.fixedEndsSpec.pre6 enc Try.prog Try.f7 Rows.fixedEndsRow.domain false) (Rows.fixedEndsSpec.post enc Try.prog Try.f7 false true false false) := by
  refine returnsInHanded_of_change (C := Try.checked) own started (by kernel_rfl) Try.func7
    (ChangeSpec.witness6 (enc := enc) (C := Try.checked) false ⟨#[], #[.agg #[.int .i64 0, .int .i64 0], .agg #[.int .i64 0, .int .i64 0], .int .i64 0], []⟩ 8 (by kernel_rfl) (by kernel_rfl) (by kernel_rfl) (by kernel_rfl)) ?_
  intro W base args ds gs before hval0 hW hcnd _
  have hval : ∀ (j : Nat) t v, Try.f7.params[j]? = some t → args[j]? = some v → Value.okWide Try.prog W .any base t v := hval0
  have hW' := hW
  obtain ⟨p, q, hA0, hV, rfl, hfz, hnd⟩ := hW
  have hA : DataW.TrodAll enc Try.prog W 0 (fun _ => true) true Try.f7.params.toList args.toList ds p := hA0
  rw [Try.params7] at hA hval
  obtain ⟨v0, vs0, d0, ds0, p0, q0, hargs, rfl, rfl, h0, r0⟩ := trodAll_cons hA
  obtain ⟨v1, vs1, d1, ds1, p1, q1, rfl, rfl, rfl, h1, r1⟩ := trodAll_cons r0
  obtain ⟨v2, vs2, d2, ds2, p2, q2, rfl, rfl, rfl, h2, r2⟩ := trodAll_cons r1
  obtain ⟨rfl, rfl, rfl⟩ := trodAll_nil r2
  obtain rfl : args = #[v0, v1, v2] := by cases args; simp_all
  obtain ⟨c0a, c0b, y0a, y0b, m0, rfl, _, _, hy0a, hy0b⟩ := Joins.open_agg2 Try.underlying26 (by kernel_rfl) (by kernel_rfl) (hval 0 26 v0 rfl rfl) h0
  obtain ⟨a0a, e0a, _, w0a⟩ := DataW.trod_int Try.underlying3 hy0a
  obtain ⟨a0b, e0b, _, w0b⟩ := DataW.trod_int Try.underlying3 hy0b
  simp at e0a e0b
  subst e0a e0b
  have b0a := bounds_i64 w0a
  have b0b := bounds_i64 w0b
  obtain ⟨c1a, c1b, y1a, y1b, m1, rfl, _, _, hy1a, hy1b⟩ := Joins.open_agg2 Try.underlying26 (by kernel_rfl) (by kernel_rfl) (hval 1 26 v1 rfl rfl) h1
  obtain ⟨a1a, e1a, _, w1a⟩ := DataW.trod_int Try.underlying3 hy1a
  obtain ⟨a1b, e1b, _, w1b⟩ := DataW.trod_int Try.underlying3 hy1b
  simp at e1a e1b
  subst e1a e1b
  have b1a := bounds_i64 w1a
  have b1b := bounds_i64 w1b
  obtain ⟨a2, rfl, _, _, w2⟩ := open_int Try.underlying3 (hval 2 3 v2 rfl rfl) h2
  have b2 := bounds_i64 w2
  refine (fixedEnds_walk a0a a0b a1a a1b a2 b0a.1 b0a.2 b0b.1 b0b.2 b1a.1 b1a.2 b1b.1 b1b.2 b2.1 b2.2 W).mono fun e W' ⟨he, hb⟩ => ?_
  exact ⟨_, he, law_post laidOut Try.underlying4 rfl (by kernel_rfl) (by kernel_rfl) (fun ds h => match ds, h with | [_, _, _], _ => rfl) hW' hb⟩

theorem fixedEnds_holds : Rows.FixedEndsSaid :=
  OpenClaim.holds_of_wide 7 Try.f7 rfl rfl rfl rfl rfl rfl rfl ⟨rfl, rfl, rfl, rfl, rfl⟩ rfl rfl rfl rfl rfl (by kernel_rfl) Try.func7 (by kernel_rfl)
    (of_decide_eq_true (by kernel_rfl)) (by unfold Func.isWrapper; first | (rw [if_pos (by decide +kernel)]; kernel_rfl) | (rw [if_neg (by decide +kernel)]; exact ⟨rfl, rfl⟩))
    (fun os started H enc _ => fixedEnds_lifted os started H enc)
#print axioms fixedEnds_holds
end Go.Proofs.Ytflfeiioblpjlaa
