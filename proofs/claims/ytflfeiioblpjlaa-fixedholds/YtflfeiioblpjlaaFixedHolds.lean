/- FixedHolds is proved: of numbers in spans that may be the sum is in Add's, a multiple in Scale's, what is rounded down in Div's, and both in Join's: the call returns true for any spans and numbers. No condition. -/
import Derived.Test.YtflfeiioblpjlaaLaw
import Derived.Test.YtflfeiioblpjlaaFixed3
namespace Go.Proofs.Ytflfeiioblpjlaa
open Go.RowKit Go.ChangeShapes Go.WideShapes Go.ChangeAt
set_option linter.unusedSimpArgs false
set_option linter.unusedVariables false
attribute [local go_sem] plus_size plus_drew dn_set dn_alloc dn_plus plus_dn cell_plus frozen_plus set_plus cell_alloc frozen_alloc set_alloc

theorem in_yes {l h n : Int} (h1 : l ≤ n) (h2 : n ≤ h) : inB l h n = true := by simp [inB, h1, h2]
theorem in_of {l h n : Int} (e : inB l h n = true) : l ≤ n ∧ n ≤ h := by simpa [inB] using e

theorem mul_mono {k l h x : Int} (h1 : l ≤ x) (h2 : x ≤ h) : min (k * l) (k * h) ≤ k * x ∧ k * x ≤ max (k * l) (k * h) := by
  by_cases hk : 0 ≤ k
  · have e1 := Int.mul_le_mul_of_nonneg_left h1 hk
    have e2 := Int.mul_le_mul_of_nonneg_left h2 hk
    omega
  · have e1 := Int.mul_le_mul_of_nonpos_left (a := k) (by omega) h1
    have e2 := Int.mul_le_mul_of_nonpos_left (a := k) (by omega) h2
    omega

/-- What Add tells has the sums. -/
theorem add_has {a b c d x y : Int} (h1 : a ≤ x) (h2 : x ≤ b) (h3 : c ≤ y) (h4 : y ≤ d) (e : (add a b c d).2.2 = 0) : inB (add a b c d).1 (add a b c d).2.1 (x + y) = true := by
  unfold add rng at *
  split at e <;> (try split at e) <;> (try split at e) <;> simp at e
  simp_all [inB]
  omega

theorem scale_has {a b k x : Int} (h1 : a ≤ x) (h2 : x ≤ b) (e : (scale a b k).2.2 = 0) : inB (scale a b k).1 (scale a b k).2.1 (k * x) = true ∧ -1048576 ≤ k ∧ k ≤ 1048576 := by
  have hm := @mul_mono k a b x h1 h2
  unfold scale rng at *
  split at e <;> (try split at e) <;> (try split at e) <;> simp at e
  simp_all [inB]

theorem quo_has {a b k x : Int} (h1 : a ≤ x) (h2 : x ≤ b) (e : (quo a b k).2.2 = 0) : inB (quo a b k).1 (quo a b k).2.1 (flo x k).1 = true ∧ (flo x k).2 = 0 := by
  unfold quo at *
  split at e <;> (try split at e) <;> simp at e
  rename_i hc hk
  have m1 := div_mono hk.1 h1
  have m2 := div_mono hk.1 h2
  simp [hc, hk, flo, inB, m1, m2]

theorem join_has {a b c d x y : Int} (e1 : chk a b = 0) (e2 : chk c d = 0) (h1 : a ≤ x) (h2 : x ≤ b) (h3 : c ≤ y) (h4 : y ≤ d) :
    (join a b c d).2.2 = 0 ∧ inB (join a b c d).1 (join a b c d).2.1 x = true ∧ inB (join a b c d).1 (join a b c d).2.1 y = true := by
  simp only [join, e1, e2, if_pos, inB, decide_eq_true_eq, true_and]
  omega

theorem part (n : Int) : n = 0 ∨ (n == 0) = false := by
  by_cases h : n = 0
  · exact .inl h
  · exact .inr (by simpa using h)

set_option maxHeartbeats 4000000 in
theorem fixedHolds_main (a b c d x y k : Int) (_ : -9223372036854775808 ≤ a) (_ : a ≤ 9223372036854775807) (_ : -9223372036854775808 ≤ b) (_ : b ≤ 9223372036854775807) (_ : -9223372036854775808 ≤ c) (_ : c ≤ 9223372036854775807) (_ : -9223372036854775808 ≤ d) (_ : d ≤ 9223372036854775807) (hx : inB a b x = true) (hy : inB c d y = true) (e1 : chk a b = 0) (e2 : chk c d = 0) (w : World) :
    Calls Try.prog 6 #[.agg #[.int .i64 a, .int .i64 b], .agg #[.int .i64 c, .int .i64 d], .int .i64 x, .int .i64 y, .int .i64 k] w fun e w' => e = .returned (.bool true) ∧ Below w.heap.size w w' := by
  obtain ⟨x1, x2⟩ := in_of hx
  obtain ⟨y1, y2⟩ := in_of hy
  obtain ⟨j1, j2, j3⟩ := join_has e1 e2 x1 x2 y1 y2
  have bx : -1099511627776 ≤ a ∧ b ≤ 1099511627776 := by rcases chk_or a b with ⟨_, g⟩ | ⟨g, _⟩ <;> omega
  have by' : -1099511627776 ≤ c ∧ d ≤ 1099511627776 := by rcases chk_or c d with ⟨_, g⟩ | ⟨g, _⟩ <;> omega
  obtain ⟨bx1, bx2⟩ := bx
  obtain ⟨by1, by2⟩ := by'
  have hadd : (add a b c d).2.2 = 0 ∧ inB (add a b c d).1 (add a b c d).2.1 (x + y) = true ∨ ((add a b c d).2.2 == 0) = false :=
    (part _).imp (fun h => ⟨h, add_has x1 x2 y1 y2 h⟩) id
  have hsc : (scale a b k).2.2 = 0 ∧ inB (scale a b k).1 (scale a b k).2.1 (k * x) = true ∧ -1152921504606846976 ≤ k * x ∧ k * x ≤ 1152921504606846976 ∨ ((scale a b k).2.2 == 0) = false :=
    (part _).imp (fun h => ⟨h, (scale_has x1 x2 h).1, mul_bd (scale_has x1 x2 h).2.1 (scale_has x1 x2 h).2.2 (by omega) (by omega)⟩) id
  have hq : (quo a b k).2.2 = 0 ∧ inB (quo a b k).1 (quo a b k).2.1 (flo x k).1 = true ∧ (flo x k).2 = 0 ∨ ((quo a b k).2.2 == 0) = false :=
    (part _).imp (fun h => ⟨h, quo_has x1 x2 h⟩) id
  rcases hadd with ⟨a1, a2⟩ | a1 <;> rcases hsc with ⟨s1, s2, s3, s4⟩ | s1 <;> rcases hq with ⟨q1, q2, q3⟩ | q1
  all_goals
    go_enter Try.func6, Try.ntmps6
    go_wp2_with (first | (go_at_call 15; refine (plus_post (alive_calls _)).mono ?_; rintro e w' ⟨rfl, x, rfl⟩) | (go_at_call 22; refine (plus_post (holds_calls _ _ _ _)).mono ?_; rintro e w' ⟨rfl, x, rfl⟩) | (go_at_call 16; refine (plus_post (check_calls _ _ _)).mono ?_; rintro e w' ⟨rfl, x, rfl⟩) | (go_at_call 10; refine (plus_post (add_calls _ _ _ _ _)).mono ?_; rintro e w' ⟨rfl, x, rfl⟩) | (go_at_call 12; refine (plus_post (scale_calls _ _ _ _)).mono ?_; rintro e w' ⟨rfl, x, rfl⟩) | (go_at_call 13; refine (plus_post (div_calls _ _ _ _)).mono ?_; rintro e w' ⟨rfl, x, rfl⟩) | (go_at_call 8; refine (plus_post (floor_calls _ _ (by omega) (by omega) _)).mono ?_; rintro e w' ⟨rfl, x, rfl⟩) | (go_at_call 14; refine (plus_post (join_calls _ _ _ _ _)).mono ?_; rintro e w' ⟨rfl, x, rfl⟩))
    go_ret
    exact ⟨rfl, by with_reducible repeat (first | exact Below.refl _ _ | apply ba | apply bp | apply bd | apply bn)⟩

set_option maxHeartbeats 1000000 in
theorem fixedHolds_walk (a b c d x y k : Int) (_ : -9223372036854775808 ≤ a) (_ : a ≤ 9223372036854775807) (_ : -9223372036854775808 ≤ b) (_ : b ≤ 9223372036854775807) (_ : -9223372036854775808 ≤ c) (_ : c ≤ 9223372036854775807) (_ : -9223372036854775808 ≤ d) (_ : d ≤ 9223372036854775807) (_ : -9223372036854775808 ≤ x) (_ : x ≤ 9223372036854775807) (_ : -9223372036854775808 ≤ y) (_ : y ≤ 9223372036854775807) (_ : -9223372036854775808 ≤ k) (_ : k ≤ 9223372036854775807) (w : World) :
    Calls Try.prog 6 #[.agg #[.int .i64 a, .int .i64 b], .agg #[.int .i64 c, .int .i64 d], .int .i64 x, .int .i64 y, .int .i64 k] w fun e w' => e = .returned (.bool true) ∧ Below w.heap.size w w' := by
  cases hx : inB a b x with
  | false => 
    go_enter Try.func6, Try.ntmps6
    go_wp2_with (first | (go_at_call 15; refine (plus_post (alive_calls _)).mono ?_; rintro e w' ⟨rfl, x, rfl⟩) | (go_at_call 22; refine (plus_post (holds_calls _ _ _ _)).mono ?_; rintro e w' ⟨rfl, x, rfl⟩) | (go_at_call 16; refine (plus_post (check_calls _ _ _)).mono ?_; rintro e w' ⟨rfl, x, rfl⟩) | (go_at_call 10; refine (plus_post (add_calls _ _ _ _ _)).mono ?_; rintro e w' ⟨rfl, x, rfl⟩) | (go_at_call 12; refine (plus_post (scale_calls _ _ _ _)).mono ?_; rintro e w' ⟨rfl, x, rfl⟩) | (go_at_call 13; refine (plus_post (div_calls _ _ _ _)).mono ?_; rintro e w' ⟨rfl, x, rfl⟩) | (go_at_call 8; refine (plus_post (floor_calls _ _ (by omega) (by omega) _)).mono ?_; rintro e w' ⟨rfl, x, rfl⟩) | (go_at_call 14; refine (plus_post (join_calls _ _ _ _ _)).mono ?_; rintro e w' ⟨rfl, x, rfl⟩))
    go_ret
    exact ⟨rfl, by with_reducible repeat (first | exact Below.refl _ _ | apply ba | apply bp | apply bd | apply bn)⟩
  | true => cases hy : inB c d y with
    | false =>
      go_enter Try.func6, Try.ntmps6
      go_wp2_with (first | (go_at_call 15; refine (plus_post (alive_calls _)).mono ?_; rintro e w' ⟨rfl, x, rfl⟩) | (go_at_call 22; refine (plus_post (holds_calls _ _ _ _)).mono ?_; rintro e w' ⟨rfl, x, rfl⟩) | (go_at_call 16; refine (plus_post (check_calls _ _ _)).mono ?_; rintro e w' ⟨rfl, x, rfl⟩) | (go_at_call 10; refine (plus_post (add_calls _ _ _ _ _)).mono ?_; rintro e w' ⟨rfl, x, rfl⟩) | (go_at_call 12; refine (plus_post (scale_calls _ _ _ _)).mono ?_; rintro e w' ⟨rfl, x, rfl⟩) | (go_at_call 13; refine (plus_post (div_calls _ _ _ _)).mono ?_; rintro e w' ⟨rfl, x, rfl⟩) | (go_at_call 8; refine (plus_post (floor_calls _ _ (by omega) (by omega) _)).mono ?_; rintro e w' ⟨rfl, x, rfl⟩) | (go_at_call 14; refine (plus_post (join_calls _ _ _ _ _)).mono ?_; rintro e w' ⟨rfl, x, rfl⟩))
      go_ret
      exact ⟨rfl, by with_reducible repeat (first | exact Below.refl _ _ | apply ba | apply bp | apply bd | apply bn)⟩
    | true => rcases chk_or a b with ⟨e1, _⟩ | ⟨e1, _⟩
              · rcases chk_or c d with ⟨e2, _⟩ | ⟨e2, _⟩
                · exact fixedHolds_main a b c d x y k (by assumption) (by assumption) (by assumption) (by assumption) (by assumption) (by assumption) (by assumption) (by assumption) hx hy e1 e2 w
                · go_enter Try.func6, Try.ntmps6
                  go_wp2_with (first | (go_at_call 15; refine (plus_post (alive_calls _)).mono ?_; rintro e w' ⟨rfl, x, rfl⟩) | (go_at_call 22; refine (plus_post (holds_calls _ _ _ _)).mono ?_; rintro e w' ⟨rfl, x, rfl⟩) | (go_at_call 16; refine (plus_post (check_calls _ _ _)).mono ?_; rintro e w' ⟨rfl, x, rfl⟩) | (go_at_call 10; refine (plus_post (add_calls _ _ _ _ _)).mono ?_; rintro e w' ⟨rfl, x, rfl⟩) | (go_at_call 12; refine (plus_post (scale_calls _ _ _ _)).mono ?_; rintro e w' ⟨rfl, x, rfl⟩) | (go_at_call 13; refine (plus_post (div_calls _ _ _ _)).mono ?_; rintro e w' ⟨rfl, x, rfl⟩) | (go_at_call 8; refine (plus_post (floor_calls _ _ (by omega) (by omega) _)).mono ?_; rintro e w' ⟨rfl, x, rfl⟩) | (go_at_call 14; refine (plus_post (join_calls _ _ _ _ _)).mono ?_; rintro e w' ⟨rfl, x, rfl⟩))
                  go_ret
                  exact ⟨rfl, by with_reducible repeat (first | exact Below.refl _ _ | apply ba | apply bp | apply bd | apply bn)⟩
              · go_enter Try.func6, Try.ntmps6
                go_wp2_with (first | (go_at_call 15; refine (plus_post (alive_calls _)).mono ?_; rintro e w' ⟨rfl, x, rfl⟩) | (go_at_call 22; refine (plus_post (holds_calls _ _ _ _)).mono ?_; rintro e w' ⟨rfl, x, rfl⟩) | (go_at_call 16; refine (plus_post (check_calls _ _ _)).mono ?_; rintro e w' ⟨rfl, x, rfl⟩) | (go_at_call 10; refine (plus_post (add_calls _ _ _ _ _)).mono ?_; rintro e w' ⟨rfl, x, rfl⟩) | (go_at_call 12; refine (plus_post (scale_calls _ _ _ _)).mono ?_; rintro e w' ⟨rfl, x, rfl⟩) | (go_at_call 13; refine (plus_post (div_calls _ _ _ _)).mono ?_; rintro e w' ⟨rfl, x, rfl⟩) | (go_at_call 8; refine (plus_post (floor_calls _ _ (by omega) (by omega) _)).mono ?_; rintro e w' ⟨rfl, x, rfl⟩) | (go_at_call 14; refine (plus_post (join_calls _ _ _ _ _)).mono ?_; rintro e w' ⟨rfl, x, rfl⟩))
                go_ret
                exact ⟨rfl, by with_reducible repeat (first | exact Below.refl _ _ | apply ba | apply bp | apply bd | apply bn)⟩

set_option maxRecDepth 100000 in
theorem fixedHolds_lifted (os : Os) (started : os.Started) (H : Type) (enc : TypeId × Value → H) :
    ReturnsInHanded {} Try.checked os 6 .any (Rows.fixedHoldsSpec.pre6 enc Try.prog Try.f6 Rows.fixedHoldsRow.domain false) (Rows.fixedHoldsSpec.post enc Try.prog Try.f6 false true false false) := by
  refine returnsInHanded_of_change (C := Try.checked) own started (by kernel_rfl) Try.func6
    (ChangeSpec.witness6 (enc := enc) (C := Try.checked) false ⟨#[], #[.agg #[.int .i64 0, .int .i64 0], .agg #[.int .i64 0, .int .i64 0], .int .i64 0, .int .i64 0, .int .i64 0], []⟩ 8 (by kernel_rfl) (by kernel_rfl) (by kernel_rfl) (by kernel_rfl)) ?_
  intro W base args ds gs before hval0 hW hcnd _
  have hval : ∀ (j : Nat) t v, Try.f6.params[j]? = some t → args[j]? = some v → Value.okWide Try.prog W .any base t v := hval0
  have hW' := hW
  obtain ⟨p, q, hA0, hV, rfl, hfz, hnd⟩ := hW
  have hA : DataW.TrodAll enc Try.prog W 0 (fun _ => true) true Try.f6.params.toList args.toList ds p := hA0
  rw [Try.params6] at hA hval
  obtain ⟨v0, vs0, d0, ds0, p0, q0, hargs, rfl, rfl, h0, r0⟩ := trodAll_cons hA
  obtain ⟨v1, vs1, d1, ds1, p1, q1, rfl, rfl, rfl, h1, r1⟩ := trodAll_cons r0
  obtain ⟨v2, vs2, d2, ds2, p2, q2, rfl, rfl, rfl, h2, r2⟩ := trodAll_cons r1
  obtain ⟨v3, vs3, d3, ds3, p3, q3, rfl, rfl, rfl, h3, r3⟩ := trodAll_cons r2
  obtain ⟨v4, vs4, d4, ds4, p4, q4, rfl, rfl, rfl, h4, r4⟩ := trodAll_cons r3
  obtain ⟨rfl, rfl, rfl⟩ := trodAll_nil r4
  obtain rfl : args = #[v0, v1, v2, v3, v4] := by cases args; simp_all
  obtain ⟨c0a, c0b, y0a, y0b, m0, rfl, _, _, hy0a, hy0b⟩ := Joins.open_agg2 Try.underlying26 (by kernel_rfl) (by kernel_rfl) (hval 0 26 v0 rfl rfl) h0
  obtain ⟨a0a, e0a, _, w0a⟩ := DataW.trod_int Try.underlying3 hy0a
  obtain ⟨a0b, e0b, _, w0b⟩ := DataW.trod_int Try.underlying3 hy0b
  simp at e0a e0b
  subst e0a e0b
  have b0a := bounds_i64 w0a
  have b0b := bounds_i64 w0b
  obtain ⟨c1a, c1b, y1a, y1b, m1, rfl, _, _, hy1a, hy1b⟩ := Joins.open_agg2 Try.underlying26 (by kernel_rfl) (by kernel_rfl) (hval 1 26 v1 rfl rfl) h1
  obtain ⟨a1a, e1a, _, w1a⟩ := DataW.trod_int Try.underlying3 hy1a
  obtain ⟨a1b, e1b, _, w1b⟩ := DataW.trod_int Try.underlying3 hy1b
  simp at e1a e1b
  subst e1a e1b
  have b1a := bounds_i64 w1a
  have b1b := bounds_i64 w1b
  obtain ⟨a2, rfl, _, _, w2⟩ := open_int Try.underlying3 (hval 2 3 v2 rfl rfl) h2
  have b2 := bounds_i64 w2
  obtain ⟨a3, rfl, _, _, w3⟩ := open_int Try.underlying3 (hval 3 3 v3 rfl rfl) h3
  have b3 := bounds_i64 w3
  obtain ⟨a4, rfl, _, _, w4⟩ := open_int Try.underlying3 (hval 4 3 v4 rfl rfl) h4
  have b4 := bounds_i64 w4
  refine (fixedHolds_walk a0a a0b a1a a1b a2 a3 a4 b0a.1 b0a.2 b0b.1 b0b.2 b1a.1 b1a.2 b1b.1 b1b.2 b2.1 b2.2 b3.1 b3.2 b4.1 b4.2 W).mono fun e W' ⟨he, hb⟩ => ?_
  exact ⟨_, he, law_post laidOut Try.underlying4 rfl (by kernel_rfl) (by kernel_rfl) (fun ds h => match ds, h with | [_, _, _, _, _], _ => rfl) hW' hb⟩

theorem fixedHolds_holds : Rows.FixedHoldsSaid :=
  OpenClaim.holds_of_wide 6 Try.f6 rfl rfl rfl rfl rfl rfl rfl ⟨rfl, rfl, rfl, rfl, rfl⟩ rfl rfl rfl rfl rfl (by kernel_rfl) Try.func6 (by kernel_rfl)
    (of_decide_eq_true (by kernel_rfl)) (by unfold Func.isWrapper; first | (rw [if_pos (by decide +kernel)]; kernel_rfl) | (rw [if_neg (by decide +kernel)]; exact ⟨rfl, rfl⟩))
    (fun os started H enc _ => fixedHolds_lifted os started H enc)
#print axioms fixedHolds_holds
end Go.Proofs.Ytflfeiioblpjlaa
