/- VecMuls is proved: for any two matrices Mul answers as the document's own function does: the call returns true. No condition. -/
import Derived.Test.YtokammhfkmgjeaaFlat
import Derived.Test.YtokammhfkmgjeaaVecEq
import Derived.Test.YtokammhfkmgjeaaVec5
import Derived.Test.YtokammhfkmgjeaaVec9
namespace Go.Proofs.Ytokammhfkmgjeaa
open Go.RowKit Go.ChangeShapes Go.WideShapes Go.ChangeAt
set_option linter.unusedSimpArgs false
set_option linter.unusedVariables false
attribute [local go_sem] plus_size plus_drew dn_set dn_alloc dn_plus plus_dn cell_plus frozen_plus set_plus cell_alloc frozen_alloc set_alloc

attribute [local go_sem] ix3_0 ix3_1 ix3_2 ix9_0 ix9_1 ix9_2 eq9L

set_option maxHeartbeats 8000000 in
set_option maxRecDepth 100000 in
theorem rmul_calls (a b c d o f g u i p q r a2 b2 c2 d2 o2 f2 g2 u2 i2 p2 q2 r2 : Int) (w : World) :
    Calls Try.prog 23 #[.agg #[.int .i64 a, .int .i64 b, .int .i64 c, .int .i64 d, .int .i64 o, .int .i64 f, .int .i64 g, .int .i64 u, .int .i64 i, .int .i64 p, .int .i64 q, .int .i64 r], .agg #[.int .i64 a2, .int .i64 b2, .int .i64 c2, .int .i64 d2, .int .i64 o2, .int .i64 f2, .int .i64 g2, .int .i64 u2, .int .i64 i2, .int .i64 p2, .int .i64 q2, .int .i64 r2]] w fun e w' => e = .returned (.tuple #[.agg #[.int .i64 (((mul ⟨⟨⟨a, b, c⟩, ⟨d, o, f⟩, ⟨g, u, i⟩⟩, ⟨p, q, r⟩⟩ ⟨⟨⟨a2, b2, c2⟩, ⟨d2, o2, f2⟩, ⟨g2, u2, i2⟩⟩, ⟨p2, q2, r2⟩⟩).1).m.a.x), .int .i64 (((mul ⟨⟨⟨a, b, c⟩, ⟨d, o, f⟩, ⟨g, u, i⟩⟩, ⟨p, q, r⟩⟩ ⟨⟨⟨a2, b2, c2⟩, ⟨d2, o2, f2⟩, ⟨g2, u2, i2⟩⟩, ⟨p2, q2, r2⟩⟩).1).m.a.y), .int .i64 (((mul ⟨⟨⟨a, b, c⟩, ⟨d, o, f⟩, ⟨g, u, i⟩⟩, ⟨p, q, r⟩⟩ ⟨⟨⟨a2, b2, c2⟩, ⟨d2, o2, f2⟩, ⟨g2, u2, i2⟩⟩, ⟨p2, q2, r2⟩⟩).1).m.a.z), .int .i64 (((mul ⟨⟨⟨a, b, c⟩, ⟨d, o, f⟩, ⟨g, u, i⟩⟩, ⟨p, q, r⟩⟩ ⟨⟨⟨a2, b2, c2⟩, ⟨d2, o2, f2⟩, ⟨g2, u2, i2⟩⟩, ⟨p2, q2, r2⟩⟩).1).m.b.x), .int .i64 (((mul ⟨⟨⟨a, b, c⟩, ⟨d, o, f⟩, ⟨g, u, i⟩⟩, ⟨p, q, r⟩⟩ ⟨⟨⟨a2, b2, c2⟩, ⟨d2, o2, f2⟩, ⟨g2, u2, i2⟩⟩, ⟨p2, q2, r2⟩⟩).1).m.b.y), .int .i64 (((mul ⟨⟨⟨a, b, c⟩, ⟨d, o, f⟩, ⟨g, u, i⟩⟩, ⟨p, q, r⟩⟩ ⟨⟨⟨a2, b2, c2⟩, ⟨d2, o2, f2⟩, ⟨g2, u2, i2⟩⟩, ⟨p2, q2, r2⟩⟩).1).m.b.z), .int .i64 (((mul ⟨⟨⟨a, b, c⟩, ⟨d, o, f⟩, ⟨g, u, i⟩⟩, ⟨p, q, r⟩⟩ ⟨⟨⟨a2, b2, c2⟩, ⟨d2, o2, f2⟩, ⟨g2, u2, i2⟩⟩, ⟨p2, q2, r2⟩⟩).1).m.c.x), .int .i64 (((mul ⟨⟨⟨a, b, c⟩, ⟨d, o, f⟩, ⟨g, u, i⟩⟩, ⟨p, q, r⟩⟩ ⟨⟨⟨a2, b2, c2⟩, ⟨d2, o2, f2⟩, ⟨g2, u2, i2⟩⟩, ⟨p2, q2, r2⟩⟩).1).m.c.y), .int .i64 (((mul ⟨⟨⟨a, b, c⟩, ⟨d, o, f⟩, ⟨g, u, i⟩⟩, ⟨p, q, r⟩⟩ ⟨⟨⟨a2, b2, c2⟩, ⟨d2, o2, f2⟩, ⟨g2, u2, i2⟩⟩, ⟨p2, q2, r2⟩⟩).1).m.c.z), .int .i64 (((mul ⟨⟨⟨a, b, c⟩, ⟨d, o, f⟩, ⟨g, u, i⟩⟩, ⟨p, q, r⟩⟩ ⟨⟨⟨a2, b2, c2⟩, ⟨d2, o2, f2⟩, ⟨g2, u2, i2⟩⟩, ⟨p2, q2, r2⟩⟩).1).t.x), .int .i64 (((mul ⟨⟨⟨a, b, c⟩, ⟨d, o, f⟩, ⟨g, u, i⟩⟩, ⟨p, q, r⟩⟩ ⟨⟨⟨a2, b2, c2⟩, ⟨d2, o2, f2⟩, ⟨g2, u2, i2⟩⟩, ⟨p2, q2, r2⟩⟩).1).t.y), .int .i64 (((mul ⟨⟨⟨a, b, c⟩, ⟨d, o, f⟩, ⟨g, u, i⟩⟩, ⟨p, q, r⟩⟩ ⟨⟨⟨a2, b2, c2⟩, ⟨d2, o2, f2⟩, ⟨g2, u2, i2⟩⟩, ⟨p2, q2, r2⟩⟩).1).t.z)], .int .i64 ((mul ⟨⟨⟨a, b, c⟩, ⟨d, o, f⟩, ⟨g, u, i⟩⟩, ⟨p, q, r⟩⟩ ⟨⟨⟨a2, b2, c2⟩, ⟨d2, o2, f2⟩, ⟨g2, u2, i2⟩⟩, ⟨p2, q2, r2⟩⟩).2)]) ∧ Below w.heap.size w w' := by
  cases hm : mayM ⟨⟨⟨a, b, c⟩, ⟨d, o, f⟩, ⟨g, u, i⟩⟩, ⟨p, q, r⟩⟩
  · rw [show mul ⟨⟨⟨a, b, c⟩, ⟨d, o, f⟩, ⟨g, u, i⟩⟩, ⟨p, q, r⟩⟩ ⟨⟨⟨a2, b2, c2⟩, ⟨d2, o2, f2⟩, ⟨g2, u2, i2⟩⟩, ⟨p2, q2, r2⟩⟩ = (zeroM, 20) by simp [mul, hm]]
    go_enter Try.func23, Try.ntmps23
    go_wp2_with (go_at_call 20; refine (plus_post (rmay_calls _ _ _ _ _ _ _ _ _ _ _ _ _)).mono ?_; rintro e w' ⟨rfl, nx, rfl⟩)
    exact bodyPost_ret (v := .tuple #[.agg #[.int .i64 0, .int .i64 0, .int .i64 0, .int .i64 0, .int .i64 0, .int .i64 0, .int .i64 0, .int .i64 0, .int .i64 0, .int .i64 0, .int .i64 0, .int .i64 0], .int .i64 20]) (by simp [results, Try.results23, go_sem, ↓IntWalk.iteOmega]) rfl ⟨rfl, by with_reducible repeat (first | exact Below.refl _ _ | apply ba | apply bp | apply bd | apply bn)⟩
  · obtain ⟨k1, k2⟩ := mayM_of hm
    simp only at k1 k2
    cases hn : mayM ⟨⟨⟨a2, b2, c2⟩, ⟨d2, o2, f2⟩, ⟨g2, u2, i2⟩⟩, ⟨p2, q2, r2⟩⟩
    · rw [show mul ⟨⟨⟨a, b, c⟩, ⟨d, o, f⟩, ⟨g, u, i⟩⟩, ⟨p, q, r⟩⟩ ⟨⟨⟨a2, b2, c2⟩, ⟨d2, o2, f2⟩, ⟨g2, u2, i2⟩⟩, ⟨p2, q2, r2⟩⟩ = (zeroM, 20) by simp [mul, hm, hn]]
      go_enter Try.func23, Try.ntmps23
      go_wp2_with (go_at_call 20; refine (plus_post (rmay_calls _ _ _ _ _ _ _ _ _ _ _ _ _)).mono ?_; rintro e w' ⟨rfl, nx, rfl⟩)
      exact bodyPost_ret (v := .tuple #[.agg #[.int .i64 0, .int .i64 0, .int .i64 0, .int .i64 0, .int .i64 0, .int .i64 0, .int .i64 0, .int .i64 0, .int .i64 0, .int .i64 0, .int .i64 0, .int .i64 0], .int .i64 20]) (by simp [results, Try.results23, go_sem, ↓IntWalk.iteOmega]) rfl ⟨rfl, by with_reducible repeat (first | exact Below.refl _ _ | apply ba | apply bp | apply bd | apply bn)⟩
    · obtain ⟨l1, l2⟩ := mayM_of hn
      simp only at l1 l2
      cases hw : mayM (mulM ⟨⟨⟨a, b, c⟩, ⟨d, o, f⟩, ⟨g, u, i⟩⟩, ⟨p, q, r⟩⟩ ⟨⟨⟨a2, b2, c2⟩, ⟨d2, o2, f2⟩, ⟨g2, u2, i2⟩⟩, ⟨p2, q2, r2⟩⟩)
      · rw [show mul ⟨⟨⟨a, b, c⟩, ⟨d, o, f⟩, ⟨g, u, i⟩⟩, ⟨p, q, r⟩⟩ ⟨⟨⟨a2, b2, c2⟩, ⟨d2, o2, f2⟩, ⟨g2, u2, i2⟩⟩, ⟨p2, q2, r2⟩⟩ = (zeroM, 20) by simp [mul, hm, hn, hw]]
        exact rmul_out a b c d o f g u i p q r a2 b2 c2 d2 o2 f2 g2 u2 i2 p2 q2 r2 k1 k2 l1 l2 hm hn hw w
      · rw [show mul ⟨⟨⟨a, b, c⟩, ⟨d, o, f⟩, ⟨g, u, i⟩⟩, ⟨p, q, r⟩⟩ ⟨⟨⟨a2, b2, c2⟩, ⟨d2, o2, f2⟩, ⟨g2, u2, i2⟩⟩, ⟨p2, q2, r2⟩⟩ = (mulM ⟨⟨⟨a, b, c⟩, ⟨d, o, f⟩, ⟨g, u, i⟩⟩, ⟨p, q, r⟩⟩ ⟨⟨⟨a2, b2, c2⟩, ⟨d2, o2, f2⟩, ⟨g2, u2, i2⟩⟩, ⟨p2, q2, r2⟩⟩, 0) by simp [mul, hm, hn, hw]]
        exact rmul_in a b c d o f g u i p q r a2 b2 c2 d2 o2 f2 g2 u2 i2 p2 q2 r2 k1 k2 l1 l2 hm hn hw w

set_option maxHeartbeats 4000000 in
set_option maxRecDepth 100000 in
theorem vecMuls_walk (a b c d o f g u i p q r a2 b2 c2 d2 o2 f2 g2 u2 i2 p2 q2 r2 : Int) (_ : -9223372036854775808 ≤ a) (_ : a ≤ 9223372036854775807) (_ : -9223372036854775808 ≤ b) (_ : b ≤ 9223372036854775807) (_ : -9223372036854775808 ≤ c) (_ : c ≤ 9223372036854775807) (_ : -9223372036854775808 ≤ d) (_ : d ≤ 9223372036854775807) (_ : -9223372036854775808 ≤ o) (_ : o ≤ 9223372036854775807) (_ : -9223372036854775808 ≤ f) (_ : f ≤ 9223372036854775807) (_ : -9223372036854775808 ≤ g) (_ : g ≤ 9223372036854775807) (_ : -9223372036854775808 ≤ u) (_ : u ≤ 9223372036854775807) (_ : -9223372036854775808 ≤ i) (_ : i ≤ 9223372036854775807) (_ : -9223372036854775808 ≤ p) (_ : p ≤ 9223372036854775807) (_ : -9223372036854775808 ≤ q) (_ : q ≤ 9223372036854775807) (_ : -9223372036854775808 ≤ r) (_ : r ≤ 9223372036854775807) (_ : -9223372036854775808 ≤ a2) (_ : a2 ≤ 9223372036854775807) (_ : -9223372036854775808 ≤ b2) (_ : b2 ≤ 9223372036854775807) (_ : -9223372036854775808 ≤ c2) (_ : c2 ≤ 9223372036854775807) (_ : -9223372036854775808 ≤ d2) (_ : d2 ≤ 9223372036854775807) (_ : -9223372036854775808 ≤ o2) (_ : o2 ≤ 9223372036854775807) (_ : -9223372036854775808 ≤ f2) (_ : f2 ≤ 9223372036854775807) (_ : -9223372036854775808 ≤ g2) (_ : g2 ≤ 9223372036854775807) (_ : -9223372036854775808 ≤ u2) (_ : u2 ≤ 9223372036854775807) (_ : -9223372036854775808 ≤ i2) (_ : i2 ≤ 9223372036854775807) (_ : -9223372036854775808 ≤ p2) (_ : p2 ≤ 9223372036854775807) (_ : -9223372036854775808 ≤ q2) (_ : q2 ≤ 9223372036854775807) (_ : -9223372036854775808 ≤ r2) (_ : r2 ≤ 9223372036854775807) (w : World) :
    Calls Try.prog 5 #[.agg #[.int .i64 a, .int .i64 b, .int .i64 c, .int .i64 d, .int .i64 o, .int .i64 f, .int .i64 g, .int .i64 u, .int .i64 i, .int .i64 p, .int .i64 q, .int .i64 r], .agg #[.int .i64 a2, .int .i64 b2, .int .i64 c2, .int .i64 d2, .int .i64 o2, .int .i64 f2, .int .i64 g2, .int .i64 u2, .int .i64 i2, .int .i64 p2, .int .i64 q2, .int .i64 r2]] w fun e w' => e = .returned (.bool true) ∧ Below w.heap.size w w' := by
  go_enter Try.func5, Try.ntmps5
  go_wp2_with (first | (go_at_call 11; refine (plus_post (mul_calls _ _ _ _ _ _ _ _ _ _ _ _ _ _ _ _ _ _ _ _ _ _ _ _ _ )).mono ?_; rintro e w' ⟨rfl, nx, rfl⟩) | (go_at_call 23; refine (plus_post (rmul_calls _ _ _ _ _ _ _ _ _ _ _ _ _ _ _ _ _ _ _ _ _ _ _ _ _ )).mono ?_; rintro e w' ⟨rfl, nx, rfl⟩))
  go_ret
  exact ⟨rfl, by with_reducible repeat (first | exact Below.refl _ _ | apply ba | apply bp | apply bd | apply bn)⟩

set_option maxRecDepth 100000 in
theorem vecMuls_lifted (os : Os) (started : os.Started) (H : Type) (enc : TypeId × Value → H) :
    ReturnsInHanded {} Try.checked os 5 .any (Rows.vecMulsSpec.pre6 enc Try.prog Try.f5 Rows.vecMulsRow.domain false) (Rows.vecMulsSpec.post enc Try.prog Try.f5 false true false false) := by
  refine returnsInHanded_of_change (C := Try.checked) own started (by kernel_rfl) Try.func5
    (ChangeSpec.witness6 (enc := enc) (C := Try.checked) false ⟨#[], #[.agg #[.int .i64 0, .int .i64 0, .int .i64 0, .int .i64 0, .int .i64 0, .int .i64 0, .int .i64 0, .int .i64 0, .int .i64 0, .int .i64 0, .int .i64 0, .int .i64 0], .agg #[.int .i64 0, .int .i64 0, .int .i64 0, .int .i64 0, .int .i64 0, .int .i64 0, .int .i64 0, .int .i64 0, .int .i64 0, .int .i64 0, .int .i64 0, .int .i64 0]], []⟩ 8 (by kernel_rfl) (by kernel_rfl) (by kernel_rfl) (by kernel_rfl)) ?_
  intro W base args ds gs before hval0 hW hcnd _
  have hval : ∀ (j : Nat) t v, Try.f5.params[j]? = some t → args[j]? = some v → Value.okWide Try.prog W .any base t v := hval0
  have hW' := hW
  obtain ⟨p, q, hA0, hV, rfl, hfz, hnd⟩ := hW
  have hA : DataW.TrodAll enc Try.prog W 0 (fun _ => true) true Try.f5.params.toList args.toList ds p := hA0
  rw [Try.params5] at hA hval
  obtain ⟨v0, vs0, d0, ds0, p0, q0, hargs, rfl, rfl, h0, r0⟩ := trodAll_cons hA
  obtain ⟨v1, vs1, d1, ds1, p1, q1, rfl, rfl, rfl, h1, r1⟩ := trodAll_cons r0
  obtain ⟨rfl, rfl, rfl⟩ := trodAll_nil r1
  obtain rfl : args = #[v0, v1] := by cases args; simp_all
  obtain ⟨a0_0, a0_1, a0_2, a0_3, a0_4, a0_5, a0_6, a0_7, a0_8, a0_9, a0_10, a0_11, rfl, ca0_0, ca0_1, ca0_2, ca0_3, ca0_4, ca0_5, ca0_6, ca0_7, ca0_8, ca0_9, ca0_10, ca0_11⟩ := open_flat12 (k := 4) (t := 31) (by kernel_rfl) (by kernel_rfl) (by kernel_rfl) (hval 0 31 v0 rfl rfl) h0
  obtain ⟨a1_0, a1_1, a1_2, a1_3, a1_4, a1_5, a1_6, a1_7, a1_8, a1_9, a1_10, a1_11, rfl, ca1_0, ca1_1, ca1_2, ca1_3, ca1_4, ca1_5, ca1_6, ca1_7, ca1_8, ca1_9, ca1_10, ca1_11⟩ := open_flat12 (k := 4) (t := 31) (by kernel_rfl) (by kernel_rfl) (by kernel_rfl) (hval 1 31 v1 rfl rfl) h1
  refine (vecMuls_walk a0_0 a0_1 a0_2 a0_3 a0_4 a0_5 a0_6 a0_7 a0_8 a0_9 a0_10 a0_11 a1_0 a1_1 a1_2 a1_3 a1_4 a1_5 a1_6 a1_7 a1_8 a1_9 a1_10 a1_11 ca0_0.1 ca0_0.2 ca0_1.1 ca0_1.2 ca0_2.1 ca0_2.2 ca0_3.1 ca0_3.2 ca0_4.1 ca0_4.2 ca0_5.1 ca0_5.2 ca0_6.1 ca0_6.2 ca0_7.1 ca0_7.2 ca0_8.1 ca0_8.2 ca0_9.1 ca0_9.2 ca0_10.1 ca0_10.2 ca0_11.1 ca0_11.2 ca1_0.1 ca1_0.2 ca1_1.1 ca1_1.2 ca1_2.1 ca1_2.2 ca1_3.1 ca1_3.2 ca1_4.1 ca1_4.2 ca1_5.1 ca1_5.2 ca1_6.1 ca1_6.2 ca1_7.1 ca1_7.2 ca1_8.1 ca1_8.2 ca1_9.1 ca1_9.2 ca1_10.1 ca1_10.2 ca1_11.1 ca1_11.2 W).mono fun e W' ⟨he, hb⟩ => ?_
  exact ⟨_, he, law_post laidOut Try.underlying4 rfl (by kernel_rfl) (by kernel_rfl) (fun ds h => match ds, h with | [_, _], _ => rfl) hW' hb⟩

theorem vecMuls_holds : Rows.VecMulsSaid :=
  OpenClaim.holds_of_wide 5 Try.f5 rfl rfl rfl rfl rfl rfl rfl ⟨rfl, rfl, rfl, rfl, rfl⟩ rfl rfl rfl rfl rfl (by kernel_rfl) Try.func5 (by kernel_rfl)
    (of_decide_eq_true (by kernel_rfl)) (by unfold Func.isWrapper; first | (rw [if_pos (by decide +kernel)]; kernel_rfl) | (rw [if_neg (by decide +kernel)]; exact ⟨rfl, rfl⟩))
    (fun os started H enc _ => vecMuls_lifted os started H enc)
#print axioms vecMuls_holds
end Go.Proofs.Ytokammhfkmgjeaa
