/- TextureEach is proved: each texel of a texture that may be is at the first place in its column and row: the call returns true for any texture, column and row. No condition. -/
import Derived.Test.YtimmbpcoagjcbaaTx6
import Derived.Test.YtimmbpcoagjcbaaLaw
namespace Go.Proofs.Ytimmbpcoagjcbaa
open Go.RowKit Go.ChangeShapes Go.WideShapes Go.ChangeAt
set_option linter.unusedSimpArgs false
set_option linter.unusedVariables false
attribute [local go_sem] plus_size plus_drew dn_set dn_alloc dn_plus plus_dn cell_plus frozen_plus set_plus cell_alloc frozen_alloc set_alloc

attribute [local go_sem] eqC_refl

attribute [local go_sem] colc_23

attribute [local go_sem] cole_23

attribute [local go_sem] coln_23

/-- a fact that the walk is not to use -/
structure Hush9 (p : Prop) : Prop where
  it : p
/-- the first place in a column, or row -/
theorem first_place {n x : Int} (hn : 1 ≤ n ∧ n ≤ 16) (hx : 0 ≤ x ∧ x < n) : ∃ u : Int, (256 * x + n - 1) / n = u ∧ (0 ≤ u ∧ u ≤ 255) ∧ u * n / 256 = x := by
  refine ⟨_, rfl, ?_⟩
  have h1 := Int.mul_ediv_add_emod (256 * x + n - 1) n
  have h2 := Int.emod_nonneg (256 * x + n - 1) (show n ≠ 0 by omega)
  have h3 := Int.emod_lt_of_pos (256 * x + n - 1) (show 0 < n by omega)
  generalize (256 * x + n - 1) / n = u at *
  generalize (256 * x + n - 1) % n = r at *
  have h0 : 0 ≤ u := by
    by_cases h : 0 ≤ u
    · exact h
    · have h4 : n * u ≤ n * (-1) := Int.mul_le_mul_of_nonneg_left (by omega) (by omega)
      omega
  have h5 : u ≤ 255 := by
    by_cases h : u ≤ 255
    · exact h
    · have h4 : n * 256 ≤ n * u := Int.mul_le_mul_of_nonneg_left (by omega) (by omega)
      omega
  refine ⟨⟨h0, h5⟩, ?_⟩
  rw [Int.mul_comm u n]
  omega

set_option maxRecDepth 100000 in
set_option maxHeartbeats 4000000 in
theorem textureEach_walk (t : TH) (l : List Cl) (x y : Int) (w : World) (hT : TxAt w t l) :
    Calls Try.prog 5 #[vTh t, .int .i64 x, .int .i64 y] w fun e w' => e = .returned (.bool true) ∧ Below w.heap.size w w' := by
  obtain ⟨W, H, ao, n, cap⟩ := t
  have hl := hT.lay
  have hn := hT.le
  simp only at hl hn
  clear hT
  unfold vTh
  simp only
  cases hm : mayT W H n
  · have he := err_no' hm
    go_enter Try.func5, Try.ntmps5
    go_wp2_with (first | (go_at_call 9; refine (alive9_calls _).mono ?_; rintro e w' ⟨rfl, nx, rfl⟩) | (go_at_call 10; refine (tcheck_is he).mono ?_; rintro e w' ⟨rfl, nx, rfl⟩))
    go_ret
    exact ⟨rfl, below_ex (by with_reducible repeat (first | exact ex_refl _ | exact ex_more9 | apply ex_alloc | apply ex_plus | apply ex_drew | apply ex_drewN | (apply ex_on; assumption)))⟩
  have he := err_ok' hm
  obtain ⟨hw, hh, hnn⟩ := mayT_iff.1 hm
  by_cases x0 : x < 0
  · skip
    go_enter Try.func5, Try.ntmps5
    go_wp2_with (first | (go_at_call 9; refine (alive9_calls _).mono ?_; rintro e w' ⟨rfl, nx, rfl⟩) | (go_at_call 10; refine (tcheck_is he).mono ?_; rintro e w' ⟨rfl, nx, rfl⟩))
    go_ret
    exact ⟨rfl, below_ex (by with_reducible repeat (first | exact ex_refl _ | exact ex_more9 | apply ex_alloc | apply ex_plus | apply ex_drew | apply ex_drewN | (apply ex_on; assumption)))⟩
  by_cases x1 : W ≤ x
  · skip
    go_enter Try.func5, Try.ntmps5
    go_wp2_with (first | (go_at_call 9; refine (alive9_calls _).mono ?_; rintro e w' ⟨rfl, nx, rfl⟩) | (go_at_call 10; refine (tcheck_is he).mono ?_; rintro e w' ⟨rfl, nx, rfl⟩))
    go_ret
    exact ⟨rfl, below_ex (by with_reducible repeat (first | exact ex_refl _ | exact ex_more9 | apply ex_alloc | apply ex_plus | apply ex_drew | apply ex_drewN | (apply ex_on; assumption)))⟩
  by_cases y0 : y < 0
  · skip
    go_enter Try.func5, Try.ntmps5
    go_wp2_with (first | (go_at_call 9; refine (alive9_calls _).mono ?_; rintro e w' ⟨rfl, nx, rfl⟩) | (go_at_call 10; refine (tcheck_is he).mono ?_; rintro e w' ⟨rfl, nx, rfl⟩))
    go_ret
    exact ⟨rfl, below_ex (by with_reducible repeat (first | exact ex_refl _ | exact ex_more9 | apply ex_alloc | apply ex_plus | apply ex_drew | apply ex_drewN | (apply ex_on; assumption)))⟩
  by_cases y1 : H ≤ y
  · skip
    go_enter Try.func5, Try.ntmps5
    go_wp2_with (first | (go_at_call 9; refine (alive9_calls _).mono ?_; rintro e w' ⟨rfl, nx, rfl⟩) | (go_at_call 10; refine (tcheck_is he).mono ?_; rintro e w' ⟨rfl, nx, rfl⟩))
    go_ret
    exact ⟨rfl, below_ex (by with_reducible repeat (first | exact ex_refl _ | exact ex_more9 | apply ex_alloc | apply ex_plus | apply ex_drew | apply ex_drewN | (apply ex_on; assumption)))⟩
  obtain ⟨u, hu, hu2, hux⟩ := first_place hw (x := x) ⟨by omega, by omega⟩
  obtain ⟨v, hv, hv2, hvy⟩ := first_place hh (x := y) ⟨by omega, by omega⟩
  obtain ⟨_, s2, s3⟩ := spot_lt hw hh hu2 hv2
  have hat := at_good (l := l) hm (plc_iff.2 hu2) (plc_iff.2 hv2)
  have hsp : spot W H u v = y * W + x := by rw [spot, hux, hvy]
  obtain ⟨k, hk⟩ : ∃ k, (spot W H u v).toNat = k := ⟨_, rfl⟩
  have hyk : y * W + x = (k : Int) := by omega
  have hyw : 0 ≤ y * W := by
    have : 0 * 0 ≤ y * W := Int.mul_le_mul (by omega) (by omega) (by omega) (by omega)
    omega
  have hkn : k < n := by omega
  rw [hk] at hat
  clear s2 s3 hsp hk hux hvy
  have hlen := hl.len
  obtain ⟨g, off, rfl, hg, hcell⟩ := hl.some (by omega)
  obtain ⟨c0, c1, c2, c3⟩ := cellCl hlen hcell hkn
  have hyw2 : y * W ≤ 256 := by
    have := (mul_le16 hw hh).2
    omega
  have k0 : ¬ W = 0 := by omega
  have k1 : ¬ H = 0 := by omega
  replace hat := Hush9.mk hat
  replace hu := Hush9.mk hu
  replace hv := Hush9.mk hv
  clear hcell hm hnn
  go_enter Try.func5, Try.ntmps5
  go_wp2_with (first | (go_at_call 9; refine (alive9_calls _).mono ?_; rintro e w' ⟨rfl, nx, rfl⟩) | (go_at_call 10; refine (tcheck_is he).mono ?_; rintro e w' ⟨rfl, nx, rfl⟩))
  refine region_plus (by kernel_rfl) (by kernel_rfl) ?_
  (repeat (go_big_quiet_step (fail)))
  refine wpQuiet_nil ?_
  rintro _ ⟨x2, rfl⟩
  simp only [hu.it, hv.it]
  replace hat := hat.it
  clear he hu hv x0 x1 y0 y1 hw hh
  go_wp2_with (go_at_call 7; refine (tat_is (hl.ex (by with_reducible repeat (first | exact ex_refl _ | exact ex_more9 | apply ex_alloc | apply ex_plus | apply ex_drew | apply ex_drewN | (apply ex_on; assumption)))) hn hat).mono ?_; rintro e w' ⟨rfl, nx, rfl⟩)
  refine region_plus (by kernel_rfl) (by kernel_rfl) ?_
  (repeat (go_big_quiet_step (fail)))
  refine wpQuiet_nil ?_
  rintro _ ⟨x2, rfl⟩
  go_wp2
  go_ret
  exact ⟨rfl, below_ex (by with_reducible repeat (first | exact ex_refl _ | exact ex_more9 | apply ex_alloc | apply ex_plus | apply ex_drew | apply ex_drewN | (apply ex_on; assumption)))⟩

set_option maxRecDepth 100000 in
theorem textureEach_lifted (os : Os) (started : os.Started) (H : Type) (enc : TypeId × Value → H) :
    ReturnsInHanded {} Try.checked os 5 .any (Rows.textureEachSpec.pre6 enc Try.prog Try.f5 Rows.textureEachRow.domain false) (Rows.textureEachSpec.post enc Try.prog Try.f5 false true false false) := by
  refine returnsInHanded_of_change (C := Try.checked) own started (by kernel_rfl) Try.func5
    (ChangeSpec.witness6 (enc := enc) (C := Try.checked) false ⟨#[], #[.agg #[.int .i64 0, .int .i64 0, .slice none 0 0], .int .i64 0, .int .i64 0], []⟩ 8 (by kernel_rfl) (by kernel_rfl) (by kernel_rfl) (by kernel_rfl)) ?_
  intro W base args ds gs before hval0 hW hcnd _
  have hval : ∀ (j : Nat) t v, Try.f5.params[j]? = some t → args[j]? = some v → Value.okWide Try.prog W .any base t v := hval0
  have hW' := hW
  obtain ⟨p, q, hA0, hV, rfl, hfz, hnd⟩ := hW
  have hA : DataW.TrodAll enc Try.prog W 0 (fun _ => true) true Try.f5.params.toList args.toList ds p := hA0
  rw [Try.params5] at hA hval
  obtain ⟨v0, vs0, d0, ds0, p0, q0, hargs, rfl, rfl, h0, r0⟩ := trodAll_cons hA
  obtain ⟨v1, vs1, d1, ds1, p1, q1, rfl, rfl, rfl, h1, r1⟩ := trodAll_cons r0
  obtain ⟨v2, vs2, d2, ds2, p2, q2, rfl, rfl, rfl, h2, r2⟩ := trodAll_cons r1
  obtain ⟨rfl, rfl, rfl⟩ := trodAll_nil r2
  obtain rfl : args = #[v0, v1, v2] := by cases args; simp_all
  obtain ⟨t0, l0, rfl, hT0⟩ := open_tex Try.underlying29 (by kernel_rfl) (by kernel_rfl) (by kernel_rfl) Try.underlying3 Try.underlying3 Try.underlying27 (by kernel_rfl) (by kernel_rfl) (hval 0 29 v0 rfl rfl) h0
  obtain ⟨a1, rfl, _, _, w1⟩ := open_int Try.underlying3 (hval 1 3 v1 rfl rfl) h1
  have b1 := bounds_i64 w1
  obtain ⟨a2, rfl, _, _, w2⟩ := open_int Try.underlying3 (hval 2 3 v2 rfl rfl) h2
  have b2 := bounds_i64 w2
  refine (textureEach_walk t0 l0 a1 a2  W hT0).mono fun e W' ⟨he, hb⟩ => ?_
  exact ⟨_, he, law_post laidOut Try.underlying4 rfl (by kernel_rfl) (by kernel_rfl) (fun ds h => match ds, h with | [_, _, _], _ => rfl) hW' hb⟩

theorem textureEach_holds : Rows.TextureEachSaid :=
  OpenClaim.holds_of_wide 5 Try.f5 rfl rfl rfl rfl rfl rfl rfl ⟨rfl, rfl, rfl, rfl, rfl⟩ rfl rfl rfl rfl rfl (by kernel_rfl) Try.func5 (by kernel_rfl)
    (of_decide_eq_true (by kernel_rfl)) (by unfold Func.isWrapper; first | (rw [if_pos (by decide +kernel)]; kernel_rfl) | (rw [if_neg (by decide +kernel)]; exact ⟨rfl, rfl⟩))
    (fun os started H enc _ => textureEach_lifted os started H enc)
#print axioms textureEach_holds
end Go.Proofs.Ytimmbpcoagjcbaa
