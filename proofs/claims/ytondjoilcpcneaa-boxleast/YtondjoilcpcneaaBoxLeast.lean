/- BoxLeast is proved: the least box of points holds each of them and lies in each box that does; the box of two holds what either one holds, and lies in each box that holds both: the call returns true for any points, boxes and point. No condition. -/
import Derived.Test.YtondjoilcpcneaaBoxLeast1
import Derived.Test.YtondjoilcpcneaaBoxLeast2
import Derived.Test.YtondjoilcpcneaaBoxLeast3
namespace Go.Proofs.Ytondjoilcpcneaa
open Go.RowKit Go.ChangeShapes Go.WideShapes Go.ChangeAt
set_option linter.unusedSimpArgs false
set_option linter.unusedVariables false
attribute [local go_sem] plus_size plus_drew dn_set dn_alloc dn_plus plus_dn cell_plus frozen_plus set_plus cell_alloc frozen_alloc set_alloc

set_option maxHeartbeats 1000000 in
theorem boxLeast_walk (ao : Option Addr) (n cap : Nat) (q : Nat → V3) (a b c d o f a2 b2 c2 d2 o2 f2 x y z : Int) (w : World) (hn : n ≤ 9223372036854775807) (hq : n = 0 ∨ ∃ g off, ao = some ⟨g, off, none⟩ ∧ Lies w g off n q) : Calls Try.prog 8 #[.slice ao n cap, .agg #[.int .i64 a, .int .i64 b, .int .i64 c, .int .i64 d, .int .i64 o, .int .i64 f], .agg #[.int .i64 a2, .int .i64 b2, .int .i64 c2, .int .i64 d2, .int .i64 o2, .int .i64 f2], .agg #[.int .i64 x, .int .i64 y, .int .i64 z]] w fun e w' => e = .returned (.bool true) ∧ Below w.heap.size w w' := by
  by_cases h : n ≤ 1000
  · rcases ofR_or q n with ⟨tr, h0⟩ | ⟨m, tr, hm⟩
    · cases hA : allIn ⟨⟨a, b, c⟩, ⟨d, o, f⟩⟩ q n
      · exact boxLeast_some ao n cap q a b c d o f a2 b2 c2 d2 o2 f2 x y z w h hq tr h0 hA
      · exact boxLeast_all ao n cap q a b c d o f a2 b2 c2 d2 o2 f2 x y z w h hq tr h0 hA
    · exact boxLeast_bad ao n cap q a b c d o f a2 b2 c2 d2 o2 f2 x y z w h hq m tr hm (by simp [hm])
  · have in1 : (1000 : Int) < (n : Int) := by omega
    go_enter Try.func8, Try.ntmps8
    go_wp2_with (go_at_call 14; refine (plus_post (alive_calls _)).mono ?_; rintro e w' ⟨rfl, nx, rfl⟩)
    go_ret
    exact ⟨rfl, by with_reducible repeat (first | exact Below.refl _ _ | apply ba | apply bp | apply bd | apply bn)⟩

set_option maxRecDepth 100000 in
theorem boxLeast_lifted (os : Os) (started : os.Started) (H : Type) (enc : TypeId × Value → H) :
    ReturnsInHanded {} Try.checked os 8 .any (Rows.boxLeastSpec.pre6 enc Try.prog Try.f8 Rows.boxLeastRow.domain false) (Rows.boxLeastSpec.post enc Try.prog Try.f8 false true false false) := by
  refine returnsInHanded_of_change (C := Try.checked) own started (by kernel_rfl) Try.func8
    (ChangeSpec.witness6 (enc := enc) (C := Try.checked) false ⟨#[], #[.slice none 0 0, .agg #[.int .i64 0, .int .i64 0, .int .i64 0, .int .i64 0, .int .i64 0, .int .i64 0], .agg #[.int .i64 0, .int .i64 0, .int .i64 0, .int .i64 0, .int .i64 0, .int .i64 0], .agg #[.int .i64 0, .int .i64 0, .int .i64 0]], []⟩ 8 (by kernel_rfl) (by kernel_rfl) (by kernel_rfl) (by kernel_rfl)) ?_
  intro W base args ds gs before hval0 hW hcnd _
  have hval : ∀ (j : Nat) t v, Try.f8.params[j]? = some t → args[j]? = some v → Value.okWide Try.prog W .any base t v := hval0
  have hW' := hW
  obtain ⟨p, q, hA0, hV, rfl, hfz, hnd⟩ := hW
  have hA : DataW.TrodAll enc Try.prog W 0 (fun _ => true) true Try.f8.params.toList args.toList ds p := hA0
  rw [Try.params8] at hA hval
  obtain ⟨v0, vs0, d0, ds0, p0, q0, hargs, rfl, rfl, h0, r0⟩ := trodAll_cons hA
  obtain ⟨v1, vs1, d1, ds1, p1, q1, rfl, rfl, rfl, h1, r1⟩ := trodAll_cons r0
  obtain ⟨v2, vs2, d2, ds2, p2, q2, rfl, rfl, rfl, h2, r2⟩ := trodAll_cons r1
  obtain ⟨v3, vs3, d3, ds3, p3, q3, rfl, rfl, rfl, h3, r3⟩ := trodAll_cons r2
  obtain ⟨rfl, rfl, rfl⟩ := trodAll_nil r3
  obtain rfl : args = #[v0, v1, v2, v3] := by cases args; simp_all
  obtain ⟨ao0, n0, cap0, rfl, hn0, ho0⟩ := open_flats (k := 4) (c := 3) Try.underlying35 (by kernel_rfl) (by kernel_rfl) (by decide) (hval 0 35 v0 rfl rfl) h0
  obtain ⟨q0, hq0⟩ := pts_arg ho0
  obtain ⟨a1_0, a1_1, a1_2, a1_3, a1_4, a1_5, rfl, ca1_0, ca1_1, ca1_2, ca1_3, ca1_4, ca1_5⟩ := open_flat6 (k := 4) (t := 25) (by kernel_rfl) (by kernel_rfl) (by kernel_rfl) (hval 1 25 v1 rfl rfl) h1
  obtain ⟨a2_0, a2_1, a2_2, a2_3, a2_4, a2_5, rfl, ca2_0, ca2_1, ca2_2, ca2_3, ca2_4, ca2_5⟩ := open_flat6 (k := 4) (t := 25) (by kernel_rfl) (by kernel_rfl) (by kernel_rfl) (hval 2 25 v2 rfl rfl) h2
  obtain ⟨a3_0, a3_1, a3_2, rfl, ca3_0, ca3_1, ca3_2⟩ := open_flat3 (k := 4) (t := 23) (by kernel_rfl) (by kernel_rfl) (by kernel_rfl) (hval 3 23 v3 rfl rfl) h3
  refine (boxLeast_walk ao0 n0 cap0 q0 a1_0 a1_1 a1_2 a1_3 a1_4 a1_5 a2_0 a2_1 a2_2 a2_3 a2_4 a2_5 a3_0 a3_1 a3_2  W hn0 hq0).mono fun e W' ⟨he, hb⟩ => ?_
  exact ⟨_, he, law_post laidOut Try.underlying4 rfl (by kernel_rfl) (by kernel_rfl) (fun ds h => match ds, h with | [_, _, _, _], _ => rfl) hW' hb⟩

theorem boxLeast_holds : Rows.BoxLeastSaid :=
  OpenClaim.holds_of_wide 8 Try.f8 rfl rfl rfl rfl rfl rfl rfl ⟨rfl, rfl, rfl, rfl, rfl⟩ rfl rfl rfl rfl rfl (by kernel_rfl) Try.func8 (by kernel_rfl)
    (of_decide_eq_true (by kernel_rfl)) (by unfold Func.isWrapper; first | (rw [if_pos (by decide +kernel)]; kernel_rfl) | (rw [if_neg (by decide +kernel)]; exact ⟨rfl, rfl⟩))
    (fun os started H enc _ => boxLeast_lifted os started H enc)
#print axioms boxLeast_holds
end Go.Proofs.Ytondjoilcpcneaa
