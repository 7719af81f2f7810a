/- BoxHolds is proved: what is in a box is, turned, in the turned box, and a box that lies in another one has its turned one in the other one's: the call returns true for any rows, boxes and point. No condition. -/
import Derived.Test.YtondjoilcpcneaaFlat
import Derived.Test.YtondjoilcpcneaaBox8
import Derived.Test.YtondjoilcpcneaaBoxA
import Derived.Test.YtondjoilcpcneaaVec4
namespace Go.Proofs.Ytondjoilcpcneaa
open Go.RowKit Go.ChangeShapes Go.WideShapes Go.ChangeAt
set_option linter.unusedSimpArgs false
set_option linter.unusedVariables false
attribute [local go_sem] plus_size plus_drew dn_set dn_alloc dn_plus plus_dn cell_plus frozen_plus set_plus cell_alloc frozen_alloc set_alloc

theorem turnedR_or (m : M9) (b : B6) : (turnedR m b = (turnedBx m b, 0) ∧ all9 m 1024 = true ∧ mayBx b = true) ∨ ∃ n, turnedR m b = (zeroBx, n) ∧ n ≠ 0 := by
  cases h1 : all9 m 1024
  · exact .inr ⟨2, by simp [turnedR, h1], by decide⟩
  cases h2 : mayBx b
  · exact .inr ⟨8, by simp [turnedR, h1, h2], by decide⟩
  cases h3 : mayBx (turnedBx m b)
  · exact .inr ⟨20, by simp [turnedR, h1, h2, h3], by decide⟩
  · exact .inl ⟨by simp [turnedR, h1, h2, h3], rfl, rfl⟩
theorem in_view {b : B6} {v : V3} (h1 : mayBx b = true) (h2 : holdsBx b v = true) : all3 v 32768 = true := by
  obtain ⟨a1, a2, a3⟩ := mayBx_of h1
  obtain ⟨b1, b2⟩ := holdsBx_of h2
  have c1 := all3_of a1
  have c2 := all3_of a2
  have c3 := vle_of b1
  have c4 := vle_of b2
  exact all3_mk (by omega)

set_option maxHeartbeats 8000000 in
set_option maxRecDepth 100000 in
theorem boxHolds_walk (a b c d o f g u i p q r s t v a2 b2 c2 d2 o2 f2 x y z : Int) (w : World) : Calls Try.prog 6 #[.agg #[.int .i64 a, .int .i64 b, .int .i64 c, .int .i64 d, .int .i64 o, .int .i64 f, .int .i64 g, .int .i64 u, .int .i64 i], .agg #[.int .i64 p, .int .i64 q, .int .i64 r, .int .i64 s, .int .i64 t, .int .i64 v], .agg #[.int .i64 a2, .int .i64 b2, .int .i64 c2, .int .i64 d2, .int .i64 o2, .int .i64 f2], .agg #[.int .i64 x, .int .i64 y, .int .i64 z]] w fun e w' => e = .returned (.bool true) ∧ Below w.heap.size w w' := by
  rcases turnedR_or ⟨⟨a, b, c⟩, ⟨d, o, f⟩, ⟨g, u, i⟩⟩ ⟨⟨p, q, r⟩, ⟨s, t, v⟩⟩ with ⟨ta, hm, ha⟩ | ⟨n, ta, hn⟩
  rotate_left
  · have hn' : (n == 0) = false := by simp [hn]
    go_enter Try.func6, Try.ntmps6
    go_wp2_with (first | (go_at_call 14; refine (plus_post (alive_calls _)).mono ?_; rintro e w' ⟨rfl, nx, rfl⟩) | (go_at_call 12; refine (plus_post (bturned_calls _ _ _ _ _ _ _ _ _ _ _ _ _ _ _ _ )).mono ?_; rintro e w' ⟨rfl, nx, rfl⟩) | (go_at_call 16; refine (plus_post (bholds_calls _ _ _ _ _ _ _ _ _ _ )).mono ?_; rintro e w' ⟨rfl, nx, rfl⟩) | (go_at_call 20; refine (plus_post (binside_calls _ _ _ _ _ _ _ _ _ _ _ _ _ )).mono ?_; rintro e w' ⟨rfl, nx, rfl⟩) | (go_at_call 24; refine (plus_post (turn_calls _ _ _ _ _ _ _ _ _ _ _ _ _ )).mono ?_; rintro e w' ⟨rfl, nx, rfl⟩))
    go_ret
    exact ⟨rfl, by with_reducible repeat (first | exact Below.refl _ _ | apply ba | apply bp | apply bd | apply bn)⟩
  have tr : holdsBx ⟨⟨p, q, r⟩, ⟨s, t, v⟩⟩ ⟨x, y, z⟩ = true → turn ⟨⟨a, b, c⟩, ⟨d, o, f⟩, ⟨g, u, i⟩⟩ ⟨x, y, z⟩ = (turned ⟨⟨a, b, c⟩, ⟨d, o, f⟩, ⟨g, u, i⟩⟩ ⟨x, y, z⟩, 0) := fun h => by simp [turn, hm, in_view ha h]
  have hin : insideBx ⟨⟨p, q, r⟩, ⟨s, t, v⟩⟩ ⟨⟨a2, b2, c2⟩, ⟨d2, o2, f2⟩⟩ = true → insideBx ⟨⟨(turnedBx ⟨⟨a, b, c⟩, ⟨d, o, f⟩, ⟨g, u, i⟩⟩ ⟨⟨p, q, r⟩, ⟨s, t, v⟩⟩).lo.x, (turnedBx ⟨⟨a, b, c⟩, ⟨d, o, f⟩, ⟨g, u, i⟩⟩ ⟨⟨p, q, r⟩, ⟨s, t, v⟩⟩).lo.y, (turnedBx ⟨⟨a, b, c⟩, ⟨d, o, f⟩, ⟨g, u, i⟩⟩ ⟨⟨p, q, r⟩, ⟨s, t, v⟩⟩).lo.z⟩, ⟨(turnedBx ⟨⟨a, b, c⟩, ⟨d, o, f⟩, ⟨g, u, i⟩⟩ ⟨⟨p, q, r⟩, ⟨s, t, v⟩⟩).hi.x, (turnedBx ⟨⟨a, b, c⟩, ⟨d, o, f⟩, ⟨g, u, i⟩⟩ ⟨⟨p, q, r⟩, ⟨s, t, v⟩⟩).hi.y, (turnedBx ⟨⟨a, b, c⟩, ⟨d, o, f⟩, ⟨g, u, i⟩⟩ ⟨⟨p, q, r⟩, ⟨s, t, v⟩⟩).hi.z⟩⟩ ⟨⟨(turnedBx ⟨⟨a, b, c⟩, ⟨d, o, f⟩, ⟨g, u, i⟩⟩ ⟨⟨a2, b2, c2⟩, ⟨d2, o2, f2⟩⟩).lo.x, (turnedBx ⟨⟨a, b, c⟩, ⟨d, o, f⟩, ⟨g, u, i⟩⟩ ⟨⟨a2, b2, c2⟩, ⟨d2, o2, f2⟩⟩).lo.y, (turnedBx ⟨⟨a, b, c⟩, ⟨d, o, f⟩, ⟨g, u, i⟩⟩ ⟨⟨a2, b2, c2⟩, ⟨d2, o2, f2⟩⟩).lo.z⟩, ⟨(turnedBx ⟨⟨a, b, c⟩, ⟨d, o, f⟩, ⟨g, u, i⟩⟩ ⟨⟨a2, b2, c2⟩, ⟨d2, o2, f2⟩⟩).hi.x, (turnedBx ⟨⟨a, b, c⟩, ⟨d, o, f⟩, ⟨g, u, i⟩⟩ ⟨⟨a2, b2, c2⟩, ⟨d2, o2, f2⟩⟩).hi.y, (turnedBx ⟨⟨a, b, c⟩, ⟨d, o, f⟩, ⟨g, u, i⟩⟩ ⟨⟨a2, b2, c2⟩, ⟨d2, o2, f2⟩⟩).hi.z⟩⟩ = true := fun h => inside_turned (mayBx_of ha).2.2 h
  have hho : holdsBx ⟨⟨p, q, r⟩, ⟨s, t, v⟩⟩ ⟨x, y, z⟩ = true → holdsBx ⟨⟨(turnedBx ⟨⟨a, b, c⟩, ⟨d, o, f⟩, ⟨g, u, i⟩⟩ ⟨⟨p, q, r⟩, ⟨s, t, v⟩⟩).lo.x, (turnedBx ⟨⟨a, b, c⟩, ⟨d, o, f⟩, ⟨g, u, i⟩⟩ ⟨⟨p, q, r⟩, ⟨s, t, v⟩⟩).lo.y, (turnedBx ⟨⟨a, b, c⟩, ⟨d, o, f⟩, ⟨g, u, i⟩⟩ ⟨⟨p, q, r⟩, ⟨s, t, v⟩⟩).lo.z⟩, ⟨(turnedBx ⟨⟨a, b, c⟩, ⟨d, o, f⟩, ⟨g, u, i⟩⟩ ⟨⟨p, q, r⟩, ⟨s, t, v⟩⟩).hi.x, (turnedBx ⟨⟨a, b, c⟩, ⟨d, o, f⟩, ⟨g, u, i⟩⟩ ⟨⟨p, q, r⟩, ⟨s, t, v⟩⟩).hi.y, (turnedBx ⟨⟨a, b, c⟩, ⟨d, o, f⟩, ⟨g, u, i⟩⟩ ⟨⟨p, q, r⟩, ⟨s, t, v⟩⟩).hi.z⟩⟩ ⟨(turned ⟨⟨a, b, c⟩, ⟨d, o, f⟩, ⟨g, u, i⟩⟩ ⟨x, y, z⟩).x, (turned ⟨⟨a, b, c⟩, ⟨d, o, f⟩, ⟨g, u, i⟩⟩ ⟨x, y, z⟩).y, (turned ⟨⟨a, b, c⟩, ⟨d, o, f⟩, ⟨g, u, i⟩⟩ ⟨x, y, z⟩).z⟩ = true := fun h => holds_turned h
  rcases turnedR_or ⟨⟨a, b, c⟩, ⟨d, o, f⟩, ⟨g, u, i⟩⟩ ⟨⟨a2, b2, c2⟩, ⟨d2, o2, f2⟩⟩ with ⟨tb, _, _⟩ | ⟨n, tb, hn⟩
  rotate_left
  · have hn' : (n == 0) = false := by simp [hn]
    clear hin
    cases h : holdsBx ⟨⟨p, q, r⟩, ⟨s, t, v⟩⟩ ⟨x, y, z⟩
    · clear hho tr
      go_enter Try.func6, Try.ntmps6
      go_wp2_with (first | (go_at_call 14; refine (plus_post (alive_calls _)).mono ?_; rintro e w' ⟨rfl, nx, rfl⟩) | (go_at_call 12; refine (plus_post (bturned_calls _ _ _ _ _ _ _ _ _ _ _ _ _ _ _ _ )).mono ?_; rintro e w' ⟨rfl, nx, rfl⟩) | (go_at_call 16; refine (plus_post (bholds_calls _ _ _ _ _ _ _ _ _ _ )).mono ?_; rintro e w' ⟨rfl, nx, rfl⟩) | (go_at_call 20; refine (plus_post (binside_calls _ _ _ _ _ _ _ _ _ _ _ _ _ )).mono ?_; rintro e w' ⟨rfl, nx, rfl⟩) | (go_at_call 24; refine (plus_post (turn_calls _ _ _ _ _ _ _ _ _ _ _ _ _ )).mono ?_; rintro e w' ⟨rfl, nx, rfl⟩))
      go_ret
      exact ⟨rfl, by with_reducible repeat (first | exact Below.refl _ _ | apply ba | apply bp | apply bd | apply bn)⟩
    · replace hho := hho h
      replace tr := tr h
      go_enter Try.func6, Try.ntmps6
      go_wp2_with (first | (go_at_call 14; refine (plus_post (alive_calls _)).mono ?_; rintro e w' ⟨rfl, nx, rfl⟩) | (go_at_call 12; refine (plus_post (bturned_calls _ _ _ _ _ _ _ _ _ _ _ _ _ _ _ _ )).mono ?_; rintro e w' ⟨rfl, nx, rfl⟩) | (go_at_call 16; refine (plus_post (bholds_calls _ _ _ _ _ _ _ _ _ _ )).mono ?_; rintro e w' ⟨rfl, nx, rfl⟩) | (go_at_call 20; refine (plus_post (binside_calls _ _ _ _ _ _ _ _ _ _ _ _ _ )).mono ?_; rintro e w' ⟨rfl, nx, rfl⟩) | (go_at_call 24; refine (plus_post (turn_calls _ _ _ _ _ _ _ _ _ _ _ _ _ )).mono ?_; rintro e w' ⟨rfl, nx, rfl⟩))
      go_ret
      exact ⟨rfl, by with_reducible repeat (first | exact Below.refl _ _ | apply ba | apply bp | apply bd | apply bn)⟩
  cases h2 : insideBx ⟨⟨p, q, r⟩, ⟨s, t, v⟩⟩ ⟨⟨a2, b2, c2⟩, ⟨d2, o2, f2⟩⟩
  · clear hin
    cases h : holdsBx ⟨⟨p, q, r⟩, ⟨s, t, v⟩⟩ ⟨x, y, z⟩
    · clear hho tr
      go_enter Try.func6, Try.ntmps6
      go_wp2_with (first | (go_at_call 14; refine (plus_post (alive_calls _)).mono ?_; rintro e w' ⟨rfl, nx, rfl⟩) | (go_at_call 12; refine (plus_post (bturned_calls _ _ _ _ _ _ _ _ _ _ _ _ _ _ _ _ )).mono ?_; rintro e w' ⟨rfl, nx, rfl⟩) | (go_at_call 16; refine (plus_post (bholds_calls _ _ _ _ _ _ _ _ _ _ )).mono ?_; rintro e w' ⟨rfl, nx, rfl⟩) | (go_at_call 20; refine (plus_post (binside_calls _ _ _ _ _ _ _ _ _ _ _ _ _ )).mono ?_; rintro e w' ⟨rfl, nx, rfl⟩) | (go_at_call 24; refine (plus_post (turn_calls _ _ _ _ _ _ _ _ _ _ _ _ _ )).mono ?_; rintro e w' ⟨rfl, nx, rfl⟩))
      go_ret
      exact ⟨rfl, by with_reducible repeat (first | exact Below.refl _ _ | apply ba | apply bp | apply bd | apply bn)⟩
    · replace hho := hho h
      replace tr := tr h
      go_enter Try.func6, Try.ntmps6
      go_wp2_with (first | (go_at_call 14; refine (plus_post (alive_calls _)).mono ?_; rintro e w' ⟨rfl, nx, rfl⟩) | (go_at_call 12; refine (plus_post (bturned_calls _ _ _ _ _ _ _ _ _ _ _ _ _ _ _ _ )).mono ?_; rintro e w' ⟨rfl, nx, rfl⟩) | (go_at_call 16; refine (plus_post (bholds_calls _ _ _ _ _ _ _ _ _ _ )).mono ?_; rintro e w' ⟨rfl, nx, rfl⟩) | (go_at_call 20; refine (plus_post (binside_calls _ _ _ _ _ _ _ _ _ _ _ _ _ )).mono ?_; rintro e w' ⟨rfl, nx, rfl⟩) | (go_at_call 24; refine (plus_post (turn_calls _ _ _ _ _ _ _ _ _ _ _ _ _ )).mono ?_; rintro e w' ⟨rfl, nx, rfl⟩))
      go_ret
      exact ⟨rfl, by with_reducible repeat (first | exact Below.refl _ _ | apply ba | apply bp | apply bd | apply bn)⟩
  · replace hin := hin h2
    cases h : holdsBx ⟨⟨p, q, r⟩, ⟨s, t, v⟩⟩ ⟨x, y, z⟩
    · clear hho tr
      go_enter Try.func6, Try.ntmps6
      go_wp2_with (first | (go_at_call 14; refine (plus_post (alive_calls _)).mono ?_; rintro e w' ⟨rfl, nx, rfl⟩) | (go_at_call 12; refine (plus_post (bturned_calls _ _ _ _ _ _ _ _ _ _ _ _ _ _ _ _ )).mono ?_; rintro e w' ⟨rfl, nx, rfl⟩) | (go_at_call 16; refine (plus_post (bholds_calls _ _ _ _ _ _ _ _ _ _ )).mono ?_; rintro e w' ⟨rfl, nx, rfl⟩) | (go_at_call 20; refine (plus_post (binside_calls _ _ _ _ _ _ _ _ _ _ _ _ _ )).mono ?_; rintro e w' ⟨rfl, nx, rfl⟩) | (go_at_call 24; refine (plus_post (turn_calls _ _ _ _ _ _ _ _ _ _ _ _ _ )).mono ?_; rintro e w' ⟨rfl, nx, rfl⟩))
      go_ret
      exact ⟨rfl, by with_reducible repeat (first | exact Below.refl _ _ | apply ba | apply bp | apply bd | apply bn)⟩
    · replace hho := hho h
      replace tr := tr h
      go_enter Try.func6, Try.ntmps6
      go_wp2_with (first | (go_at_call 14; refine (plus_post (alive_calls _)).mono ?_; rintro e w' ⟨rfl, nx, rfl⟩) | (go_at_call 12; refine (plus_post (bturned_calls _ _ _ _ _ _ _ _ _ _ _ _ _ _ _ _ )).mono ?_; rintro e w' ⟨rfl, nx, rfl⟩) | (go_at_call 16; refine (plus_post (bholds_calls _ _ _ _ _ _ _ _ _ _ )).mono ?_; rintro e w' ⟨rfl, nx, rfl⟩) | (go_at_call 20; refine (plus_post (binside_calls _ _ _ _ _ _ _ _ _ _ _ _ _ )).mono ?_; rintro e w' ⟨rfl, nx, rfl⟩) | (go_at_call 24; refine (plus_post (turn_calls _ _ _ _ _ _ _ _ _ _ _ _ _ )).mono ?_; rintro e w' ⟨rfl, nx, rfl⟩))
      go_ret
      exact ⟨rfl, by with_reducible repeat (first | exact Below.refl _ _ | apply ba | apply bp | apply bd | apply bn)⟩

set_option maxRecDepth 100000 in
theorem boxHolds_lifted (os : Os) (started : os.Started) (H : Type) (enc : TypeId × Value → H) :
    ReturnsInHanded {} Try.checked os 6 .any (Rows.boxHoldsSpec.pre6 enc Try.prog Try.f6 Rows.boxHoldsRow.domain false) (Rows.boxHoldsSpec.post enc Try.prog Try.f6 false true false false) := by
  refine returnsInHanded_of_change (C := Try.checked) own started (by kernel_rfl) Try.func6
    (ChangeSpec.witness6 (enc := enc) (C := Try.checked) false ⟨#[], #[.agg #[.int .i64 0, .int .i64 0, .int .i64 0, .int .i64 0, .int .i64 0, .int .i64 0, .int .i64 0, .int .i64 0, .int .i64 0], .agg #[.int .i64 0, .int .i64 0, .int .i64 0, .int .i64 0, .int .i64 0, .int .i64 0], .agg #[.int .i64 0, .int .i64 0, .int .i64 0, .int .i64 0, .int .i64 0, .int .i64 0], .agg #[.int .i64 0, .int .i64 0, .int .i64 0]], []⟩ 8 (by kernel_rfl) (by kernel_rfl) (by kernel_rfl) (by kernel_rfl)) ?_
  intro W base args ds gs before hval0 hW hcnd _
  have hval : ∀ (j : Nat) t v, Try.f6.params[j]? = some t → args[j]? = some v → Value.okWide Try.prog W .any base t v := hval0
  have hW' := hW
  obtain ⟨p, q, hA0, hV, rfl, hfz, hnd⟩ := hW
  have hA : DataW.TrodAll enc Try.prog W 0 (fun _ => true) true Try.f6.params.toList args.toList ds p := hA0
  rw [Try.params6] at hA hval
  obtain ⟨v0, vs0, d0, ds0, p0, q0, hargs, rfl, rfl, h0, r0⟩ := trodAll_cons hA
  obtain ⟨v1, vs1, d1, ds1, p1, q1, rfl, rfl, rfl, h1, r1⟩ := trodAll_cons r0
  obtain ⟨v2, vs2, d2, ds2, p2, q2, rfl, rfl, rfl, h2, r2⟩ := trodAll_cons r1
  obtain ⟨v3, vs3, d3, ds3, p3, q3, rfl, rfl, rfl, h3, r3⟩ := trodAll_cons r2
  obtain ⟨rfl, rfl, rfl⟩ := trodAll_nil r3
  obtain rfl : args = #[v0, v1, v2, v3] := by cases args; simp_all
  obtain ⟨a0_0, a0_1, a0_2, a0_3, a0_4, a0_5, a0_6, a0_7, a0_8, rfl, ca0_0, ca0_1, ca0_2, ca0_3, ca0_4, ca0_5, ca0_6, ca0_7, ca0_8⟩ := open_flat9 (k := 4) (t := 33) (by kernel_rfl) (by kernel_rfl) (by kernel_rfl) (hval 0 33 v0 rfl rfl) h0
  obtain ⟨a1_0, a1_1, a1_2, a1_3, a1_4, a1_5, rfl, ca1_0, ca1_1, ca1_2, ca1_3, ca1_4, ca1_5⟩ := open_flat6 (k := 4) (t := 25) (by kernel_rfl) (by kernel_rfl) (by kernel_rfl) (hval 1 25 v1 rfl rfl) h1
  obtain ⟨a2_0, a2_1, a2_2, a2_3, a2_4, a2_5, rfl, ca2_0, ca2_1, ca2_2, ca2_3, ca2_4, ca2_5⟩ := open_flat6 (k := 4) (t := 25) (by kernel_rfl) (by kernel_rfl) (by kernel_rfl) (hval 2 25 v2 rfl rfl) h2
  obtain ⟨a3_0, a3_1, a3_2, rfl, ca3_0, ca3_1, ca3_2⟩ := open_flat3 (k := 4) (t := 23) (by kernel_rfl) (by kernel_rfl) (by kernel_rfl) (hval 3 23 v3 rfl rfl) h3
  refine (boxHolds_walk a0_0 a0_1 a0_2 a0_3 a0_4 a0_5 a0_6 a0_7 a0_8 a1_0 a1_1 a1_2 a1_3 a1_4 a1_5 a2_0 a2_1 a2_2 a2_3 a2_4 a2_5 a3_0 a3_1 a3_2  W).mono fun e W' ⟨he, hb⟩ => ?_
  exact ⟨_, he, law_post laidOut Try.underlying4 rfl (by kernel_rfl) (by kernel_rfl) (fun ds h => match ds, h with | [_, _, _, _], _ => rfl) hW' hb⟩

theorem boxHolds_holds : Rows.BoxHoldsSaid :=
  OpenClaim.holds_of_wide 6 Try.f6 rfl rfl rfl rfl rfl rfl rfl ⟨rfl, rfl, rfl, rfl, rfl⟩ rfl rfl rfl rfl rfl (by kernel_rfl) Try.func6 (by kernel_rfl)
    (of_decide_eq_true (by kernel_rfl)) (by unfold Func.isWrapper; first | (rw [if_pos (by decide +kernel)]; kernel_rfl) | (rw [if_neg (by decide +kernel)]; exact ⟨rfl, rfl⟩))
    (fun os started H enc _ => boxHolds_lifted os started H enc)
#print axioms boxHolds_holds
end Go.Proofs.Ytondjoilcpcneaa
