/- VecRounds is proved: a point turned is, in each number, the row by the point, by 256, rounded down once: the call returns true for any rows and point. No condition. -/
import Derived.Test.YtokammhfkmgjeaaFlat
import Derived.Test.YtokammhfkmgjeaaVec8
namespace Go.Proofs.Ytokammhfkmgjeaa
open Go.RowKit Go.ChangeShapes Go.WideShapes Go.ChangeAt
set_option linter.unusedSimpArgs false
set_option linter.unusedVariables false
attribute [local go_sem] plus_size plus_drew dn_set dn_alloc dn_plus plus_dn cell_plus frozen_plus set_plus cell_alloc frozen_alloc set_alloc

attribute [local go_sem] ix3_0 ix3_1 ix3_2 ix9_0 ix9_1 ix9_2 eq9L

set_option maxHeartbeats 4000000 in
set_option maxRecDepth 100000 in
theorem vecRounds_yes (a b c d o f g u i x y z : Int) (hm : all9 ⟨⟨a, b, c⟩, ⟨d, o, f⟩, ⟨g, u, i⟩⟩ 1024 = true) (hv : all3 ⟨x, y, z⟩ 32768 = true) (w : World) :
    Calls Try.prog 7 #[.agg #[.int .i64 a, .int .i64 b, .int .i64 c, .int .i64 d, .int .i64 o, .int .i64 f, .int .i64 g, .int .i64 u, .int .i64 i], .agg #[.int .i64 x, .int .i64 y, .int .i64 z]] w fun e w' => e = .returned (.bool true) ∧ Below w.heap.size w w' := by
  have e0 : turn ⟨⟨a, b, c⟩, ⟨d, o, f⟩, ⟨g, u, i⟩⟩ ⟨x, y, z⟩ = (⟨(a * x + b * y + c * z) / 256, (d * x + o * y + f * z) / 256, (g * x + u * y + i * z) / 256⟩, 0) := by simp only [turn, hm, hv, if_true]; rfl
  obtain ⟨s1, s2, s3⟩ := all9_of hm
  obtain ⟨⟨b01, b02⟩, ⟨b03, b04⟩, b05, b06⟩ := prods_bd s1 hv
  simp only at b01 b02 b03 b04 b05 b06
  obtain ⟨⟨b11, b12⟩, ⟨b13, b14⟩, b15, b16⟩ := prods_bd s2 hv
  simp only at b11 b12 b13 b14 b15 b16
  obtain ⟨⟨b21, b22⟩, ⟨b23, b24⟩, b25, b26⟩ := prods_bd s3 hv
  simp only at b21 b22 b23 b24 b25 b26
  go_enter Try.func7, Try.ntmps7
  go_wp2_with (first | (go_at_call 14; refine (plus_post (alive_calls _)).mono ?_; rintro e w' ⟨rfl, nx, rfl⟩) | (go_at_call 9; refine (plus_post (turn_calls _ _ _ _ _ _ _ _ _ _ _ _ _)).mono ?_; rintro e w' ⟨rfl, nx, rfl⟩) | (go_at_call 24; refine (plus_post (floor256_calls _ (by omega) (by omega) _)).mono ?_; rintro e w' ⟨rfl, nx, rfl⟩))
  refine region_plus (by kernel_rfl) (by kernel_rfl) ?_
  (repeat (go_big_quiet_step ((go_at_call 10; exact plus_of (of_calls _ _ _ _)))))
  refine wpQuiet_nil ?_
  rintro _ ⟨x2, rfl⟩
  go_wp2
  go_ret
  exact ⟨rfl, by with_reducible repeat (first | exact Below.refl _ _ | apply ba | apply bp | apply bd | apply bn)⟩

set_option maxHeartbeats 4000000 in
theorem vecRounds_no (a b c d o f g u i x y z : Int) (e0 : turn ⟨⟨a, b, c⟩, ⟨d, o, f⟩, ⟨g, u, i⟩⟩ ⟨x, y, z⟩ = (zeroV, 2)) (w : World) :
    Calls Try.prog 7 #[.agg #[.int .i64 a, .int .i64 b, .int .i64 c, .int .i64 d, .int .i64 o, .int .i64 f, .int .i64 g, .int .i64 u, .int .i64 i], .agg #[.int .i64 x, .int .i64 y, .int .i64 z]] w fun e w' => e = .returned (.bool true) ∧ Below w.heap.size w w' := by
  rw [show zeroV = ⟨0, 0, 0⟩ from rfl] at e0
  go_enter Try.func7, Try.ntmps7
  go_wp2_with (first | (go_at_call 14; refine (plus_post (alive_calls _)).mono ?_; rintro e w' ⟨rfl, nx, rfl⟩) | (go_at_call 9; refine (plus_post (turn_calls _ _ _ _ _ _ _ _ _ _ _ _ _)).mono ?_; rintro e w' ⟨rfl, nx, rfl⟩) | (go_at_call 24; refine (plus_post (floor256_calls _ (by omega) (by omega) _)).mono ?_; rintro e w' ⟨rfl, nx, rfl⟩))
  go_ret
  exact ⟨rfl, by with_reducible repeat (first | exact Below.refl _ _ | apply ba | apply bp | apply bd | apply bn)⟩

theorem vecRounds_walk (a b c d o f g u i x y z : Int) (_ : -9223372036854775808 ≤ a) (_ : a ≤ 9223372036854775807) (_ : -9223372036854775808 ≤ b) (_ : b ≤ 9223372036854775807) (_ : -9223372036854775808 ≤ c) (_ : c ≤ 9223372036854775807) (_ : -9223372036854775808 ≤ d) (_ : d ≤ 9223372036854775807) (_ : -9223372036854775808 ≤ o) (_ : o ≤ 9223372036854775807) (_ : -9223372036854775808 ≤ f) (_ : f ≤ 9223372036854775807) (_ : -9223372036854775808 ≤ g) (_ : g ≤ 9223372036854775807) (_ : -9223372036854775808 ≤ u) (_ : u ≤ 9223372036854775807) (_ : -9223372036854775808 ≤ i) (_ : i ≤ 9223372036854775807) (_ : -9223372036854775808 ≤ x) (_ : x ≤ 9223372036854775807) (_ : -9223372036854775808 ≤ y) (_ : y ≤ 9223372036854775807) (_ : -9223372036854775808 ≤ z) (_ : z ≤ 9223372036854775807) (w : World) :
    Calls Try.prog 7 #[.agg #[.int .i64 a, .int .i64 b, .int .i64 c, .int .i64 d, .int .i64 o, .int .i64 f, .int .i64 g, .int .i64 u, .int .i64 i], .agg #[.int .i64 x, .int .i64 y, .int .i64 z]] w fun e w' => e = .returned (.bool true) ∧ Below w.heap.size w w' := by
  cases hm : all9 ⟨⟨a, b, c⟩, ⟨d, o, f⟩, ⟨g, u, i⟩⟩ 1024
  · exact vecRounds_no _ _ _ _ _ _ _ _ _ _ _ _ (by simp [turn, hm]) w
  · cases hv : all3 ⟨x, y, z⟩ 32768
    · exact vecRounds_no _ _ _ _ _ _ _ _ _ _ _ _ (by simp [turn, hm, hv]) w
    · exact vecRounds_yes _ _ _ _ _ _ _ _ _ _ _ _ hm hv w

set_option maxRecDepth 100000 in
theorem vecRounds_lifted (os : Os) (started : os.Started) (H : Type) (enc : TypeId × Value → H) :
    ReturnsInHanded {} Try.checked os 7 .any (Rows.vecRoundsSpec.pre6 enc Try.prog Try.f7 Rows.vecRoundsRow.domain false) (Rows.vecRoundsSpec.post enc Try.prog Try.f7 false true false false) := by
  refine returnsInHanded_of_change (C := Try.checked) own started (by kernel_rfl) Try.func7
    (ChangeSpec.witness6 (enc := enc) (C := Try.checked) false ⟨#[], #[.agg #[.int .i64 0, .int .i64 0, .int .i64 0, .int .i64 0, .int .i64 0, .int .i64 0, .int .i64 0, .int .i64 0, .int .i64 0], .agg #[.int .i64 0, .int .i64 0, .int .i64 0]], []⟩ 8 (by kernel_rfl) (by kernel_rfl) (by kernel_rfl) (by kernel_rfl)) ?_
  intro W base args ds gs before hval0 hW hcnd _
  have hval : ∀ (j : Nat) t v, Try.f7.params[j]? = some t → args[j]? = some v → Value.okWide Try.prog W .any base t v := hval0
  have hW' := hW
  obtain ⟨p, q, hA0, hV, rfl, hfz, hnd⟩ := hW
  have hA : DataW.TrodAll enc Try.prog W 0 (fun _ => true) true Try.f7.params.toList args.toList ds p := hA0
  rw [Try.params7] at hA hval
  obtain ⟨v0, vs0, d0, ds0, p0, q0, hargs, rfl, rfl, h0, r0⟩ := trodAll_cons hA
  obtain ⟨v1, vs1, d1, ds1, p1, q1, rfl, rfl, rfl, h1, r1⟩ := trodAll_cons r0
  obtain ⟨rfl, rfl, rfl⟩ := trodAll_nil r1
  obtain rfl : args = #[v0, v1] := by cases args; simp_all
  obtain ⟨a0_0, a0_1, a0_2, a0_3, a0_4, a0_5, a0_6, a0_7, a0_8, rfl, ca0_0, ca0_1, ca0_2, ca0_3, ca0_4, ca0_5, ca0_6, ca0_7, ca0_8⟩ := open_flat9 (k := 4) (t := 28) (by kernel_rfl) (by kernel_rfl) (by kernel_rfl) (hval 0 28 v0 rfl rfl) h0
  obtain ⟨a1_0, a1_1, a1_2, rfl, ca1_0, ca1_1, ca1_2⟩ := open_flat3 (k := 4) (t := 23) (by kernel_rfl) (by kernel_rfl) (by kernel_rfl) (hval 1 23 v1 rfl rfl) h1
  refine (vecRounds_walk a0_0 a0_1 a0_2 a0_3 a0_4 a0_5 a0_6 a0_7 a0_8 a1_0 a1_1 a1_2 ca0_0.1 ca0_0.2 ca0_1.1 ca0_1.2 ca0_2.1 ca0_2.2 ca0_3.1 ca0_3.2 ca0_4.1 ca0_4.2 ca0_5.1 ca0_5.2 ca0_6.1 ca0_6.2 ca0_7.1 ca0_7.2 ca0_8.1 ca0_8.2 ca1_0.1 ca1_0.2 ca1_1.1 ca1_1.2 ca1_2.1 ca1_2.2 W).mono fun e W' ⟨he, hb⟩ => ?_
  exact ⟨_, he, law_post laidOut Try.underlying4 rfl (by kernel_rfl) (by kernel_rfl) (fun ds h => match ds, h with | [_, _], _ => rfl) hW' hb⟩

theorem vecRounds_holds : Rows.VecRoundsSaid :=
  OpenClaim.holds_of_wide 7 Try.f7 rfl rfl rfl rfl rfl rfl rfl ⟨rfl, rfl, rfl, rfl, rfl⟩ rfl rfl rfl rfl rfl (by kernel_rfl) Try.func7 (by kernel_rfl)
    (of_decide_eq_true (by kernel_rfl)) (by unfold Func.isWrapper; first | (rw [if_pos (by decide +kernel)]; kernel_rfl) | (rw [if_neg (by decide +kernel)]; exact ⟨rfl, rfl⟩))
    (fun os started H enc _ => vecRounds_lifted os started H enc)
#print axioms vecRounds_holds
end Go.Proofs.Ytokammhfkmgjeaa
