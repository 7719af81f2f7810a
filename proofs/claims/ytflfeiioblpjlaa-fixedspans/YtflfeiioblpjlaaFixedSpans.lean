/- FixedSpans is proved: for any spans and number, Add, Scale, Div, Join, Check and Holds answer as the document's own functions do: the call returns true. No condition. -/
import Derived.Test.YtflfeiioblpjlaaLaw
import Derived.Test.YtflfeiioblpjlaaFixed3
namespace Go.Proofs.Ytflfeiioblpjlaa
open Go.RowKit Go.ChangeShapes Go.WideShapes Go.ChangeAt
set_option linter.unusedSimpArgs false
set_option linter.unusedVariables false
attribute [local go_sem] plus_size plus_drew dn_set dn_alloc dn_plus plus_dn cell_plus frozen_plus set_plus cell_alloc frozen_alloc set_alloc

set_option maxHeartbeats 2000000 in
theorem fixedSpans_walk (a b c d k : Int) (_ : -9223372036854775808 ≤ a) (_ : a ≤ 9223372036854775807) (_ : -9223372036854775808 ≤ b) (_ : b ≤ 9223372036854775807) (_ : -9223372036854775808 ≤ c) (_ : c ≤ 9223372036854775807) (_ : -9223372036854775808 ≤ d) (_ : d ≤ 9223372036854775807) (_ : -9223372036854775808 ≤ k) (_ : k ≤ 9223372036854775807) (w : World) :
    Calls Try.prog 4 #[.agg #[.int .i64 a, .int .i64 b], .agg #[.int .i64 c, .int .i64 d], .int .i64 k] w fun e w' => e = .returned (.bool true) ∧ Below w.heap.size w w' := by
  have hm : (chk a b == 0) = mayB a b := rfl
  by_cases h1 : a ≤ k
  · by_cases h2 : k ≤ b
    · have hi : inB a b k = true := by simp [inB, h1, h2]
      go_enter Try.func4, Try.ntmps4
      go_wp2_with (first | (go_at_call 10; refine (plus_post (add_calls _ _ _ _ _)).mono ?_; rintro e w' ⟨rfl, x, rfl⟩) | (go_at_call 12; refine (plus_post (scale_calls _ _ _ _)).mono ?_; rintro e w' ⟨rfl, x, rfl⟩) | (go_at_call 13; refine (plus_post (div_calls _ _ _ _)).mono ?_; rintro e w' ⟨rfl, x, rfl⟩) | (go_at_call 14; refine (plus_post (join_calls _ _ _ _ _)).mono ?_; rintro e w' ⟨rfl, x, rfl⟩) | (go_at_call 17; refine (plus_post (radd_calls _ _ _ _ _)).mono ?_; rintro e w' ⟨rfl, x, rfl⟩) | (go_at_call 18; refine (plus_post (rscale_calls _ _ _ _)).mono ?_; rintro e w' ⟨rfl, x, rfl⟩) | (go_at_call 19; refine (plus_post (rdiv_calls _ _ _ _)).mono ?_; rintro e w' ⟨rfl, x, rfl⟩) | (go_at_call 20; refine (plus_post (rjoin_calls _ _ _ _ _)).mono ?_; rintro e w' ⟨rfl, x, rfl⟩))
      refine region_plus (by kernel_rfl) (by kernel_rfl) ?_
      repeat (go_big_quiet_step ((first | (go_at_call 16; exact plus_of (check_calls _ _ _)) | (go_at_call 21; exact plus_of (may_calls _ _ _)) | (go_at_call 22; exact plus_of (holds_calls _ _ _ _)))))
      refine wpQuiet_nil ?_
      rintro _ ⟨x2, rfl⟩
      go_wp2
      go_ret
      exact ⟨rfl, by with_reducible repeat (first | exact Below.refl _ _ | apply ba | apply bp | apply bd | apply bn)⟩
    · have hi : inB a b k = false := by simp [inB]; omega
      have hd : decide (k ≤ b) = false := by simpa using h2
      go_enter Try.func4, Try.ntmps4
      go_wp2_with (first | (go_at_call 10; refine (plus_post (add_calls _ _ _ _ _)).mono ?_; rintro e w' ⟨rfl, x, rfl⟩) | (go_at_call 12; refine (plus_post (scale_calls _ _ _ _)).mono ?_; rintro e w' ⟨rfl, x, rfl⟩) | (go_at_call 13; refine (plus_post (div_calls _ _ _ _)).mono ?_; rintro e w' ⟨rfl, x, rfl⟩) | (go_at_call 14; refine (plus_post (join_calls _ _ _ _ _)).mono ?_; rintro e w' ⟨rfl, x, rfl⟩) | (go_at_call 17; refine (plus_post (radd_calls _ _ _ _ _)).mono ?_; rintro e w' ⟨rfl, x, rfl⟩) | (go_at_call 18; refine (plus_post (rscale_calls _ _ _ _)).mono ?_; rintro e w' ⟨rfl, x, rfl⟩) | (go_at_call 19; refine (plus_post (rdiv_calls _ _ _ _)).mono ?_; rintro e w' ⟨rfl, x, rfl⟩) | (go_at_call 20; refine (plus_post (rjoin_calls _ _ _ _ _)).mono ?_; rintro e w' ⟨rfl, x, rfl⟩))
      refine region_plus (by kernel_rfl) (by kernel_rfl) ?_
      repeat (go_big_quiet_step ((first | (go_at_call 16; exact plus_of (check_calls _ _ _)) | (go_at_call 21; exact plus_of (may_calls _ _ _)) | (go_at_call 22; exact plus_of (holds_calls _ _ _ _)))))
      refine wpQuiet_nil ?_
      rintro _ ⟨x2, rfl⟩
      go_wp2
      go_ret
      exact ⟨rfl, by with_reducible repeat (first | exact Below.refl _ _ | apply ba | apply bp | apply bd | apply bn)⟩
  · have hi : inB a b k = false := by simp [inB]; omega
    have hd : decide (a ≤ k) = false := by simpa using h1
    go_enter Try.func4, Try.ntmps4
    go_wp2_with (first | (go_at_call 10; refine (plus_post (add_calls _ _ _ _ _)).mono ?_; rintro e w' ⟨rfl, x, rfl⟩) | (go_at_call 12; refine (plus_post (scale_calls _ _ _ _)).mono ?_; rintro e w' ⟨rfl, x, rfl⟩) | (go_at_call 13; refine (plus_post (div_calls _ _ _ _)).mono ?_; rintro e w' ⟨rfl, x, rfl⟩) | (go_at_call 14; refine (plus_post (join_calls _ _ _ _ _)).mono ?_; rintro e w' ⟨rfl, x, rfl⟩) | (go_at_call 17; refine (plus_post (radd_calls _ _ _ _ _)).mono ?_; rintro e w' ⟨rfl, x, rfl⟩) | (go_at_call 18; refine (plus_post (rscale_calls _ _ _ _)).mono ?_; rintro e w' ⟨rfl, x, rfl⟩) | (go_at_call 19; refine (plus_post (rdiv_calls _ _ _ _)).mono ?_; rintro e w' ⟨rfl, x, rfl⟩) | (go_at_call 20; refine (plus_post (rjoin_calls _ _ _ _ _)).mono ?_; rintro e w' ⟨rfl, x, rfl⟩))
    refine region_plus (by kernel_rfl) (by kernel_rfl) ?_
    repeat (go_big_quiet_step ((first | (go_at_call 16; exact plus_of (check_calls _ _ _)) | (go_at_call 21; exact plus_of (may_calls _ _ _)) | (go_at_call 22; exact plus_of (holds_calls _ _ _ _)))))
    refine wpQuiet_nil ?_
    rintro _ ⟨x2, rfl⟩
    go_wp2
    go_ret
    exact ⟨rfl, by with_reducible repeat (first | exact Below.refl _ _ | apply ba | apply bp | apply bd | apply bn)⟩

set_option maxRecDepth 100000 in
theorem fixedSpans_lifted (os : Os) (started : os.Started) (H : Type) (enc : TypeId × Value → H) :
    ReturnsInHanded {} Try.checked os 4 .any (Rows.fixedSpansSpec.pre6 enc Try.prog Try.f4 Rows.fixedSpansRow.domain false) (Rows.fixedSpansSpec.post enc Try.prog Try.f4 false true false false) := by
  refine returnsInHanded_of_change (C := Try.checked) own started (by kernel_rfl) Try.func4
    (ChangeSpec.witness6 (enc := enc) (C := Try.checked) false ⟨#[], #[.agg #[.int .i64 0, .int .i64 0], .agg #[.int .i64 0, .int .i64 0], .int .i64 0], []⟩ 8 (by kernel_rfl) (by kernel_rfl) (by kernel_rfl) (by kernel_rfl)) ?_
  intro W base args ds gs before hval0 hW hcnd _
  have hval : ∀ (j : Nat) t v, Try.f4.params[j]? = some t → args[j]? = some v → Value.okWide Try.prog W .any base t v := hval0
  have hW' := hW
  obtain ⟨p, q, hA0, hV, rfl, hfz, hnd⟩ := hW
  have hA : DataW.TrodAll enc Try.prog W 0 (fun _ => true) true Try.f4.params.toList args.toList ds p := hA0
  rw [Try.params4] at hA hval
  obtain ⟨v0, vs0, d0, ds0, p0, q0, hargs, rfl, rfl, h0, r0⟩ := trodAll_cons hA
  obtain ⟨v1, vs1, d1, ds1, p1, q1, rfl, rfl, rfl, h1, r1⟩ := trodAll_cons r0
  obtain ⟨v2, vs2, d2, ds2, p2, q2, rfl, rfl, rfl, h2, r2⟩ := trodAll_cons r1
  obtain ⟨rfl, rfl, rfl⟩ := trodAll_nil r2
  obtain rfl : args = #[v0, v1, v2] := by cases args; simp_all
  obtain ⟨c0a, c0b, y0a, y0b, m0, rfl, _, _, hy0a, hy0b⟩ := Joins.open_agg2 Try.underlying26 (by kernel_rfl) (by kernel_rfl) (hval 0 26 v0 rfl rfl) h0
  obtain ⟨a0a, e0a, _, w0a⟩ := DataW.trod_int Try.underlying3 hy0a
  obtain ⟨a0b, e0b, _, w0b⟩ := DataW.trod_int Try.underlying3 hy0b
  simp at e0a e0b
  subst e0a e0b
  have b0a := bounds_i64 w0a
  have b0b := bounds_i64 w0b
  obtain ⟨c1a, c1b, y1a, y1b, m1, rfl, _, _, hy1a, hy1b⟩ := Joins.open_agg2 Try.underlying26 (by kernel_rfl) (by kernel_rfl) (hval 1 26 v1 rfl rfl) h1
  obtain ⟨a1a, e1a, _, w1a⟩ := DataW.trod_int Try.underlying3 hy1a
  obtain ⟨a1b, e1b, _, w1b⟩ := DataW.trod_int Try.underlying3 hy1b
  simp at e1a e1b
  subst e1a e1b
  have b1a := bounds_i64 w1a
  have b1b := bounds_i64 w1b
  obtain ⟨a2, rfl, _, _, w2⟩ := open_int Try.underlying3 (hval 2 3 v2 rfl rfl) h2
  have b2 := bounds_i64 w2
  refine (fixedSpans_walk a0a a0b a1a a1b a2 b0a.1 b0a.2 b0b.1 b0b.2 b1a.1 b1a.2 b1b.1 b1b.2 b2.1 b2.2 W).mono fun e W' ⟨he, hb⟩ => ?_
  exact ⟨_, he, law_post laidOut Try.underlying4 rfl (by kernel_rfl) (by kernel_rfl) (fun ds h => match ds, h with | [_, _, _], _ => rfl) hW' hb⟩

theorem fixedSpans_holds : Rows.FixedSpansSaid :=
  OpenClaim.holds_of_wide 4 Try.f4 rfl rfl rfl rfl rfl rfl rfl ⟨rfl, rfl, rfl, rfl, rfl⟩ rfl rfl rfl rfl rfl (by kernel_rfl) Try.func4 (by kernel_rfl)
    (of_decide_eq_true (by kernel_rfl)) (by unfold Func.isWrapper; first | (rw [if_pos (by decide +kernel)]; kernel_rfl) | (rw [if_neg (by decide +kernel)]; exact ⟨rfl, rfl⟩))
    (fun os started H enc _ => fixedSpans_lifted os started H enc)
#print axioms fixedSpans_holds
end Go.Proofs.Ytflfeiioblpjlaa
