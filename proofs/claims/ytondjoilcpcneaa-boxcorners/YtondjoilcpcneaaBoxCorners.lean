/- BoxCorners is proved: a turned box is the least one of the eight corners, turned, for any rows and box: the call returns true. No condition. -/
import Derived.Test.YtondjoilcpcneaaFlat
import Derived.Test.YtondjoilcpcneaaBox8
import Derived.Test.YtondjoilcpcneaaBoxA
import Derived.Test.YtondjoilcpcneaaBoxC2
import Derived.Test.YtondjoilcpcneaaVec4
namespace Go.Proofs.Ytondjoilcpcneaa
open Go.RowKit Go.ChangeShapes Go.WideShapes Go.ChangeAt
set_option linter.unusedSimpArgs false
set_option linter.unusedVariables false
attribute [local go_sem] plus_size plus_drew dn_set dn_alloc dn_plus plus_dn cell_plus frozen_plus set_plus cell_alloc frozen_alloc set_alloc

theorem turnedR_or3 (m : M9) (b : B6) : (turnedR m b = (turnedBx m b, 0) ∧ all9 m 1024 = true ∧ mayBx b = true ∧ mayBx (turnedBx m b) = true) ∨ ∃ n, turnedR m b = (⟨⟨0, 0, 0⟩, ⟨0, 0, 0⟩⟩, n) ∧ n ≠ 0 := by
  cases h1 : all9 m 1024
  · exact .inr ⟨2, by simp [turnedR, h1, zeroBx, zeroV], by decide⟩
  cases h2 : mayBx b
  · exact .inr ⟨8, by simp [turnedR, h1, h2, zeroBx, zeroV], by decide⟩
  cases h3 : mayBx (turnedBx m b)
  · exact .inr ⟨20, by simp [turnedR, h1, h2, h3, zeroBx, zeroV], by decide⟩
  · exact .inl ⟨by simp [turnedR, h1, h2, h3], rfl, rfl, rfl⟩
theorem view_in {b : B6} {v : V3} (h1 : mayBx b = true) (h2 : holdsBx b v = true) : all3 v 32768 = true := by
  obtain ⟨a1, a2, a3⟩ := mayBx_of h1
  obtain ⟨b1, b2⟩ := holdsBx_of h2
  have c1 := all3_of a1
  have c2 := all3_of a2
  have c3 := vle_of b1
  have c4 := vle_of b2
  exact all3_mk (by omega)
theorem seen_of {p : Nat → V3} : ∀ n, (∀ k, k < n → all3 (p k) 32768 = true) → seen p n = true
  | 0, _ => rfl
  | n + 1, h => by simp [seen, seen_of n (fun k hk => h k (by omega)), h n (by omega)]
theorem of_turned {m : M9} {b : B6} (h : mayBx (turnedBx m b) = true) : ofV (fun j => turned m (cornerN b j)) 8 = .tuple #[.agg #[.int .i64 (turnedBx m b).lo.x, .int .i64 (turnedBx m b).lo.y, .int .i64 (turnedBx m b).lo.z, .int .i64 (turnedBx m b).hi.x, .int .i64 (turnedBx m b).hi.y, .int .i64 (turnedBx m b).hi.z], .int .i64 0] := by
  rw [ofV_good (by decide) (by decide) (seen_of 8 fun k hk => view_in (b := turnedBx m b) h (by rw [← turned_lst]; exact lst_holds (p := fun j => turned m (cornerN b j)) hk)), turned_lst]
theorem lof8_calls (m : M9) (b : B6) (g cap : Nat) (w : World) (h : mayBx (turnedBx m b) = true) (hl : Lies w g 0 8 (fun j => turned m (cornerN b j))) :
    Calls Try.prog 13 #[.slice (some ⟨g, 0, none⟩) 8 cap] w fun e w' => e = .returned (.tuple #[.agg #[.int .i64 (turnedBx m b).lo.x, .int .i64 (turnedBx m b).lo.y, .int .i64 (turnedBx m b).lo.z, .int .i64 (turnedBx m b).hi.x, .int .i64 (turnedBx m b).hi.y, .int .i64 (turnedBx m b).hi.z], .int .i64 0]) ∧ Below w.heap.size w w' := by
  rw [← of_turned h]
  exact of_some g 0 8 cap _ w (by decide) (by decide) hl

set_option maxHeartbeats 4000000 in
set_option maxRecDepth 100000 in
theorem boxCorners_walk (a b c d o f g u i p q r s t v : Int) (w : World) : Calls Try.prog 7 #[.agg #[.int .i64 a, .int .i64 b, .int .i64 c, .int .i64 d, .int .i64 o, .int .i64 f, .int .i64 g, .int .i64 u, .int .i64 i], .agg #[.int .i64 p, .int .i64 q, .int .i64 r, .int .i64 s, .int .i64 t, .int .i64 v]] w fun e w' => e = .returned (.bool true) ∧ Below w.heap.size w w' := by
  rcases turnedR_or3 ⟨⟨a, b, c⟩, ⟨d, o, f⟩, ⟨g, u, i⟩⟩ ⟨⟨p, q, r⟩, ⟨s, t, v⟩⟩ with ⟨ta, hm, hb, ht⟩ | ⟨n, ta, hn⟩
  rotate_left
  · have hn' : (n == 0) = false := by simp [hn]
    go_enter Try.func7, Try.ntmps7
    go_wp2_with (first | (go_at_call 14; refine (plus_post (alive_calls _)).mono ?_; rintro e w' ⟨rfl, na, rfl⟩) | (go_at_call 12; refine (plus_post (bturned_calls _ _ _ _ _ _ _ _ _ _ _ _ _ _ _ _ )).mono ?_; rintro e w' ⟨rfl, nt, rfl⟩))
    go_ret
    exact ⟨rfl, by with_reducible repeat (first | exact Below.refl _ _ | apply ba | apply bp | apply bd | apply bn)⟩
  go_enter Try.func7, Try.ntmps7
  go_wp2_with (first | (go_at_call 14; refine (plus_post (alive_calls _)).mono ?_; rintro e w' ⟨rfl, na, rfl⟩) | (go_at_call 12; refine (plus_post (bturned_calls _ _ _ _ _ _ _ _ _ _ _ _ _ _ _ _ )).mono ?_; rintro e w' ⟨rfl, nt, rfl⟩))
  go_loopw [8, 9] (fun lv iv wr => ∃ (k : Nat) (ao : Option Addr) (cap : Nat), k ≤ 8 ∧ iv = .int .i64 k ∧ lv = .slice ao k cap ∧ (∃ y, wr = plus ((plus (plus ((w.alloc (.cells #[.int .i64 a, .int .i64 b, .int .i64 c, .int .i64 d, .int .i64 o, .int .i64 f, .int .i64 g, .int .i64 u, .int .i64 i] 33)).alloc (.cells #[.int .i64 p, .int .i64 q, .int .i64 r, .int .i64 s, .int .i64 t, .int .i64 v] 25)) na) nt).alloc (.cells #[.int .i64 (turnedBx ⟨⟨a, b, c⟩, ⟨d, o, f⟩, ⟨g, u, i⟩⟩ ⟨⟨p, q, r⟩, ⟨s, t, v⟩⟩).lo.x, .int .i64 (turnedBx ⟨⟨a, b, c⟩, ⟨d, o, f⟩, ⟨g, u, i⟩⟩ ⟨⟨p, q, r⟩, ⟨s, t, v⟩⟩).lo.y, .int .i64 (turnedBx ⟨⟨a, b, c⟩, ⟨d, o, f⟩, ⟨g, u, i⟩⟩ ⟨⟨p, q, r⟩, ⟨s, t, v⟩⟩).lo.z, .int .i64 (turnedBx ⟨⟨a, b, c⟩, ⟨d, o, f⟩, ⟨g, u, i⟩⟩ ⟨⟨p, q, r⟩, ⟨s, t, v⟩⟩).hi.x, .int .i64 (turnedBx ⟨⟨a, b, c⟩, ⟨d, o, f⟩, ⟨g, u, i⟩⟩ ⟨⟨p, q, r⟩, ⟨s, t, v⟩⟩).hi.y, .int .i64 (turnedBx ⟨⟨a, b, c⟩, ⟨d, o, f⟩, ⟨g, u, i⟩⟩ ⟨⟨p, q, r⟩, ⟨s, t, v⟩⟩).hi.z] 25)) y) ∧ Owns ((plus (plus ((w.alloc (.cells #[.int .i64 a, .int .i64 b, .int .i64 c, .int .i64 d, .int .i64 o, .int .i64 f, .int .i64 g, .int .i64 u, .int .i64 i] 33)).alloc (.cells #[.int .i64 p, .int .i64 q, .int .i64 r, .int .i64 s, .int .i64 t, .int .i64 v] 25)) na) nt).alloc (.cells #[.int .i64 (turnedBx ⟨⟨a, b, c⟩, ⟨d, o, f⟩, ⟨g, u, i⟩⟩ ⟨⟨p, q, r⟩, ⟨s, t, v⟩⟩).lo.x, .int .i64 (turnedBx ⟨⟨a, b, c⟩, ⟨d, o, f⟩, ⟨g, u, i⟩⟩ ⟨⟨p, q, r⟩, ⟨s, t, v⟩⟩).lo.y, .int .i64 (turnedBx ⟨⟨a, b, c⟩, ⟨d, o, f⟩, ⟨g, u, i⟩⟩ ⟨⟨p, q, r⟩, ⟨s, t, v⟩⟩).lo.z, .int .i64 (turnedBx ⟨⟨a, b, c⟩, ⟨d, o, f⟩, ⟨g, u, i⟩⟩ ⟨⟨p, q, r⟩, ⟨s, t, v⟩⟩).hi.x, .int .i64 (turnedBx ⟨⟨a, b, c⟩, ⟨d, o, f⟩, ⟨g, u, i⟩⟩ ⟨⟨p, q, r⟩, ⟨s, t, v⟩⟩).hi.y, .int .i64 (turnedBx ⟨⟨a, b, c⟩, ⟨d, o, f⟩, ⟨g, u, i⟩⟩ ⟨⟨p, q, r⟩, ⟨s, t, v⟩⟩).hi.z] 25)) wr lv k (fun j => turned ⟨⟨a, b, c⟩, ⟨d, o, f⟩, ⟨g, u, i⟩⟩ (cornerN ⟨⟨p, q, r⟩, ⟨s, t, v⟩⟩ j))) (fun _ iv _ => 8 - (intOf iv).toNat)
  case atStart => exact ⟨0, none, 0, by decide, rfl, rfl, (by with_reducible repeat (first | exact ex_refl _ | exact ex_more | apply ex_alloc | apply ex_plus | apply ex_drew | apply ex_drewN)), owns_nil _ _ _⟩
  case round =>
    obtain ⟨k, ao, cap, hk, rfl, rfl, ⟨y, rfl⟩, hown⟩ := hrel
    by_cases hkl : k < 8
    · have ik : (k : Int) < 8 := by omega
      have tk : turn ⟨⟨a, b, c⟩, ⟨d, o, f⟩, ⟨g, u, i⟩⟩ ⟨(cornerN ⟨⟨p, q, r⟩, ⟨s, t, v⟩⟩ k).x, (cornerN ⟨⟨p, q, r⟩, ⟨s, t, v⟩⟩ k).y, (cornerN ⟨⟨p, q, r⟩, ⟨s, t, v⟩⟩ k).z⟩ = (turned ⟨⟨a, b, c⟩, ⟨d, o, f⟩, ⟨g, u, i⟩⟩ (cornerN ⟨⟨p, q, r⟩, ⟨s, t, v⟩⟩ k), 0) := by rw [turn, if_pos hm, if_pos (corner_view hb k)]
      go_wp2
      refine region_fresh 8 10 (.cells #[.int .i64 0, .int .i64 0, .int .i64 0] 23) (by kernel_rfl) (by kernel_rfl) rfl (fun _ _ x _ _ h => by cases x <;> exact h) (fun _ _ => by kernel_rfl) ?_
      apply Exists.intro
      refine ⟨fun x0 => ?_, fun x1 x2 => ?_⟩
      · simp only [List.take_succ_cons, List.take_zero]
        (repeat (go_big_quiet_step ((first | (go_at_call 25; exact plus_of (lcorner_calls _ _ _ _ _ _ k hkl _)) | (go_at_call 24; exact plus_of (turn_calls _ _ _ _ _ _ _ _ _ _ _ _ _ ))))))
        exact wpQuiet_nil rfl
      simp only [List.drop_succ_cons, List.drop_zero]
      go_wp2_with (at_builtin; refine wpList_append_pts (T := (plus (plus ((w.alloc (.cells #[.int .i64 a, .int .i64 b, .int .i64 c, .int .i64 d, .int .i64 o, .int .i64 f, .int .i64 g, .int .i64 u, .int .i64 i] 33)).alloc (.cells #[.int .i64 p, .int .i64 q, .int .i64 r, .int .i64 s, .int .i64 t, .int .i64 v] 25)) na) nt).alloc (.cells #[.int .i64 (turnedBx ⟨⟨a, b, c⟩, ⟨d, o, f⟩, ⟨g, u, i⟩⟩ ⟨⟨p, q, r⟩, ⟨s, t, v⟩⟩).lo.x, .int .i64 (turnedBx ⟨⟨a, b, c⟩, ⟨d, o, f⟩, ⟨g, u, i⟩⟩ ⟨⟨p, q, r⟩, ⟨s, t, v⟩⟩).lo.y, .int .i64 (turnedBx ⟨⟨a, b, c⟩, ⟨d, o, f⟩, ⟨g, u, i⟩⟩ ⟨⟨p, q, r⟩, ⟨s, t, v⟩⟩).lo.z, .int .i64 (turnedBx ⟨⟨a, b, c⟩, ⟨d, o, f⟩, ⟨g, u, i⟩⟩ ⟨⟨p, q, r⟩, ⟨s, t, v⟩⟩).hi.x, .int .i64 (turnedBx ⟨⟨a, b, c⟩, ⟨d, o, f⟩, ⟨g, u, i⟩⟩ ⟨⟨p, q, r⟩, ⟨s, t, v⟩⟩).hi.y, .int .i64 (turnedBx ⟨⟨a, b, c⟩, ⟨d, o, f⟩, ⟨g, u, i⟩⟩ ⟨⟨p, q, r⟩, ⟨s, t, v⟩⟩).hi.z] 25)) rfl _ _ rfl _ (k) (fun j => turned ⟨⟨a, b, c⟩, ⟨d, o, f⟩, ⟨g, u, i⟩⟩ (cornerN ⟨⟨p, q, r⟩, ⟨s, t, v⟩⟩ j)) rfl (by with_reducible repeat (first | exact ex_refl _ | exact ex_more | apply ex_alloc | apply ex_plus | apply ex_drew | apply ex_drewN)) (hown.ex (by with_reducible repeat (first | exact ex_refl _ | exact ex_more | apply ex_alloc | apply ex_plus | apply ex_drew | apply ex_drewN))) _ 0 1 1 rfl ⟨by simp [go_sem]; try omega, fun j hj => by match j, hj with | 0, _ => simp [go_sem, ↓IntWalk.iteOmega, Nat.add_zero]⟩ (by decide) (by omega) ?_; intro g' cap' y' hown' hg')
      go_roundw
      case rel => exact ⟨k + 1, _, cap', by omega, by go_num, rfl, ⟨y', rfl⟩, hown'⟩
      case measure => simp [intOf]; omega
    · obtain rfl : k = 8 := by omega
      obtain ⟨G, cap2, e, _, _⟩ := World.ownsRow.form hown (by decide)
      simp only [Value.slice.injEq, true_and] at e
      obtain ⟨rfl, rfl⟩ := e
      have hl := hown.lies (by decide)
      clear hown
      go_wp2_with (go_at_call 13; refine (plus_post (lof8_calls _ _ _ _ _ ht (hl.ex (by with_reducible repeat (first | exact ex_refl _ | exact ex_more | apply ex_alloc | apply ex_plus | apply ex_drew | apply ex_drewN))))).mono ?_; rintro e w' ⟨rfl, nx, rfl⟩)
      go_ret
      exact ⟨rfl, by with_reducible repeat (first | exact Below.refl _ _ | apply ba | apply bp | apply bd | apply bn)⟩

set_option maxRecDepth 100000 in
theorem boxCorners_lifted (os : Os) (started : os.Started) (H : Type) (enc : TypeId × Value → H) :
    ReturnsInHanded {} Try.checked os 7 .any (Rows.boxCornersSpec.pre6 enc Try.prog Try.f7 Rows.boxCornersRow.domain false) (Rows.boxCornersSpec.post enc Try.prog Try.f7 false true false false) := by
  refine returnsInHanded_of_change (C := Try.checked) own started (by kernel_rfl) Try.func7
    (ChangeSpec.witness6 (enc := enc) (C := Try.checked) false ⟨#[], #[.agg #[.int .i64 0, .int .i64 0, .int .i64 0, .int .i64 0, .int .i64 0, .int .i64 0, .int .i64 0, .int .i64 0, .int .i64 0], .agg #[.int .i64 0, .int .i64 0, .int .i64 0, .int .i64 0, .int .i64 0, .int .i64 0]], []⟩ 8 (by kernel_rfl) (by kernel_rfl) (by kernel_rfl) (by kernel_rfl)) ?_
  intro W base args ds gs before hval0 hW hcnd _
  have hval : ∀ (j : Nat) t v, Try.f7.params[j]? = some t → args[j]? = some v → Value.okWide Try.prog W .any base t v := hval0
  have hW' := hW
  obtain ⟨p, q, hA0, hV, rfl, hfz, hnd⟩ := hW
  have hA : DataW.TrodAll enc Try.prog W 0 (fun _ => true) true Try.f7.params.toList args.toList ds p := hA0
  rw [Try.params7] at hA hval
  obtain ⟨v0, vs0, d0, ds0, p0, q0, hargs, rfl, rfl, h0, r0⟩ := trodAll_cons hA
  obtain ⟨v1, vs1, d1, ds1, p1, q1, rfl, rfl, rfl, h1, r1⟩ := trodAll_cons r0
  obtain ⟨rfl, rfl, rfl⟩ := trodAll_nil r1
  obtain rfl : args = #[v0, v1] := by cases args; simp_all
  obtain ⟨a0_0, a0_1, a0_2, a0_3, a0_4, a0_5, a0_6, a0_7, a0_8, rfl, ca0_0, ca0_1, ca0_2, ca0_3, ca0_4, ca0_5, ca0_6, ca0_7, ca0_8⟩ := open_flat9 (k := 4) (t := 33) (by kernel_rfl) (by kernel_rfl) (by kernel_rfl) (hval 0 33 v0 rfl rfl) h0
  obtain ⟨a1_0, a1_1, a1_2, a1_3, a1_4, a1_5, rfl, ca1_0, ca1_1, ca1_2, ca1_3, ca1_4, ca1_5⟩ := open_flat6 (k := 4) (t := 25) (by kernel_rfl) (by kernel_rfl) (by kernel_rfl) (hval 1 25 v1 rfl rfl) h1
  refine (boxCorners_walk a0_0 a0_1 a0_2 a0_3 a0_4 a0_5 a0_6 a0_7 a0_8 a1_0 a1_1 a1_2 a1_3 a1_4 a1_5  W).mono fun e W' ⟨he, hb⟩ => ?_
  exact ⟨_, he, law_post laidOut Try.underlying4 rfl (by kernel_rfl) (by kernel_rfl) (fun ds h => match ds, h with | [_, _], _ => rfl) hW' hb⟩

theorem boxCorners_holds : Rows.BoxCornersSaid :=
  OpenClaim.holds_of_wide 7 Try.f7 rfl rfl rfl rfl rfl rfl rfl ⟨rfl, rfl, rfl, rfl, rfl⟩ rfl rfl rfl rfl rfl (by kernel_rfl) Try.func7 (by kernel_rfl)
    (of_decide_eq_true (by kernel_rfl)) (by unfold Func.isWrapper; first | (rw [if_pos (by decide +kernel)]; kernel_rfl) | (rw [if_neg (by decide +kernel)]; exact ⟨rfl, rfl⟩))
    (fun os started H enc _ => boxCorners_lifted os started H enc)
#print axioms boxCorners_holds
end Go.Proofs.Ytondjoilcpcneaa
