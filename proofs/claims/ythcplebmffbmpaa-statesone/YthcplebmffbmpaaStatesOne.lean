/- For every look on the way down and every style: states.Under, Check, CheckLook and Begin answer as the document says (dioramaref07); no condition. -/
import Derived.Test.YthcplebmffbmpaaRows
import Derived.Test.YthcplebmffbmpaaLaw
import Derived.Test.YthcplebmffbmpaaSt5
import Derived.Test.YthcplebmffbmpaaSt9
namespace Go.Proofs.Ythcplebmffbmpaa
open Go.RowKit Go.ChangeShapes Go.WideShapes Go.ChangeAt
set_option linter.unusedSimpArgs false
set_option linter.unusedVariables false
attribute [local go_sem] plus_size plus_drew dn_set dn_alloc dn_plus plus_dn cell_plus frozen_plus set_plus cell_alloc frozen_alloc set_alloc

attribute [local go_sem] eq4_refl eq5_refl

attribute [local go_sem] col_22

attribute [local go_sem] col_23

attribute [local go_sem] col9_22

attribute [local go_sem] col9_23

attribute [local go_sem] col8_22

attribute [local go_sem] col8_23

attribute [local go_sem] kep_37

attribute [local go_sem] kep9_37

attribute [local go_sem] kep8_37

attribute [local go_sem] larr_29

attribute [local go_sem] larr_53

set_option maxRecDepth 100000 in
set_option maxHeartbeats 8000000 in
theorem statesOne_walk (i : Ih) (s : Sy) (w : World) (hi : LkB i.l) (hB : SyB s) :
    Calls Try.prog 4 #[.agg #[.int .u8 i.l.r, .int .u8 i.l.g, .int .u8 i.l.b, .int .u8 i.l.a, .int .i64 i.l.tx, .int .u8 i.l.cu, .int .i64 i.l.bi, .bool i.l.bl, .int .i64 i.l.bn, .bool i.k0, .bool i.k1, .bool i.k2, .bool i.k3, .bool i.k4], .agg #[.int .u8 s.s0, .int .u8 s.s1, .int .u8 s.s2, .int .u8 s.s3, .int .u8 s.s4, .int .u8 s.l.r, .int .u8 s.l.g, .int .u8 s.l.b, .int .u8 s.l.a, .int .i64 s.l.tx, .int .u8 s.l.cu, .int .i64 s.l.bi, .bool s.l.bl, .int .i64 s.l.bn]] w fun e w' => e = .returned (.bool true) ∧ Below w.heap.size w w' := by
  obtain ⟨⟨ur, ug, ub, ua, ut, uc, ui, ul, un⟩, k0, k1, k2, k3, k4⟩ := i
  obtain ⟨s0, s1, s2, s3, s4, ⟨vr, vg, vb, va, vt, vc, vi, vl, vn⟩⟩ := s
  simp only at hi
  obtain ⟨M, hM⟩ : ∃ M, under ⟨⟨ur, ug, ub, ua, ut, uc, ui, ul, un⟩, k0, k1, k2, k3, k4⟩ ⟨s0, s1, s2, s3, s4, ⟨vr, vg, vb, va, vt, vc, vi, vl, vn⟩⟩ = M := ⟨_, rfl⟩
  obtain ⟨er, hE⟩ : ∃ er, underErr ⟨⟨ur, ug, ub, ua, ut, uc, ui, ul, un⟩, k0, k1, k2, k3, k4⟩ ⟨s0, s1, s2, s3, s4, ⟨vr, vg, vb, va, vt, vc, vi, vl, vn⟩⟩ = er := ⟨_, rfl⟩
  go_enter Try.func4, Try.ntmps4
  go_wp2_with (first | (go_at_call 14; refine (plus_post (under_calls _ _ _ _ _ _ _ _ _ _ _ _ _ _ _ _ _ _ _ _ _ _ _ _ _ _ _ _ hB _)).mono ?_; rintro e w' ⟨rfl, nx, rfl⟩; simp only [hM, hE]) | (go_at_call 15; refine (plus_post (runder_calls _ _ _ _ _ _ _ _ _ _ _ _ _ _ _ _ _ _ _ _ _ _ _ _ _ _ _ _ hB _)).mono ?_; rintro e w' ⟨rfl, nx, rfl⟩; simp only [hM, hE]))
  refine region_plus (by kernel_rfl) (by kernel_rfl) ?_
  (repeat (go_big_quiet_step ((first | (go_at_call 12; exact plus_of (sty_calls _ _ _ _ _ _ _ _ _ _ _ _ _ _ hB _)) | (go_at_call 16; exact plus_of (rsty_calls _ _ _ _ _ _ _ _ _ _ _ _ _ _ hB _)) | (go_at_call 13; exact plus_of (look_calls _ _ _ _ _ _ _ _ _ _)) | (go_at_call 17; exact plus_of (rlook_calls _ _ _ _ _ _ _ _ _ _)) | (go_at_call 18; exact plus_of (begin_calls _)) | (go_at_call 19; exact plus_of (rbegin_calls _))))))
  refine wpQuiet_nil ?_
  rintro _ ⟨x2, rfl⟩
  go_wp2
  go_ret
  exact ⟨rfl, by with_reducible repeat (first | exact Below.refl _ _ | apply ba | apply bp | apply bd | apply bn)⟩

set_option maxRecDepth 100000 in
theorem statesOne_lifted (os : Os) (started : os.Started) (H : Type) (enc : TypeId × Value → H) :
    ReturnsInHanded {} Try.checked os 4 .any (Rows.statesOneSpec.pre6 enc Try.prog Try.f4 Rows.statesOneRow.domain false) (Rows.statesOneSpec.post enc Try.prog Try.f4 false true false false) := by
  refine returnsInHanded_of_change (C := Try.checked) own started (by kernel_rfl) Try.func4
    (ChangeSpec.witness6 (enc := enc) (C := Try.checked) false ⟨#[], #[.agg #[.int .u8 0, .int .u8 0, .int .u8 0, .int .u8 0, .int .i64 0, .int .u8 0, .int .i64 0, .bool false, .int .i64 0, .bool false, .bool false, .bool false, .bool false, .bool false], .agg #[.int .u8 0, .int .u8 0, .int .u8 0, .int .u8 0, .int .u8 0, .int .u8 0, .int .u8 0, .int .u8 0, .int .u8 0, .int .i64 0, .int .u8 0, .int .i64 0, .bool false, .int .i64 0]], []⟩ 8 (by kernel_rfl) (by kernel_rfl) (by kernel_rfl) (by kernel_rfl)) ?_
  intro W base args ds gs before hval0 hW hcnd _
  have hval : ∀ (j : Nat) t v, Try.f4.params[j]? = some t → args[j]? = some v → Value.okWide Try.prog W .any base t v := hval0
  have hW' := hW
  obtain ⟨p, q, hA0, hV, rfl, hfz, hnd⟩ := hW
  have hA : DataW.TrodAll enc Try.prog W 0 (fun _ => true) true Try.f4.params.toList args.toList ds p := hA0
  rw [Try.params4] at hA hval
  obtain ⟨v0, vs0, d0, ds0, p0, q0, hargs, rfl, rfl, h0, r0⟩ := trodAll_cons hA
  obtain ⟨v1, vs1, d1, ds1, p1, q1, rfl, rfl, rfl, h1, r1⟩ := trodAll_cons r0
  obtain ⟨rfl, rfl, rfl⟩ := trodAll_nil r1
  obtain rfl : args = #[v0, v1] := by cases args; simp_all
  obtain ⟨s0, rfl, hs0⟩ := open_inherit (t := 39) (by kernel_rfl) (by kernel_rfl) (by kernel_rfl) (hval 0 39 v0 rfl rfl) h0
  obtain ⟨s1, rfl, hs1⟩ := open_style (t := 31) (by kernel_rfl) (by kernel_rfl) (by kernel_rfl) (hval 1 31 v1 rfl rfl) h1
  refine (statesOne_walk s0 s1  W hs0 hs1).mono fun e W' ⟨he, hb⟩ => ?_
  exact ⟨_, he, law_post laidOut Try.underlying4 rfl (by kernel_rfl) (by kernel_rfl) (fun ds h => match ds, h with | [_, _], _ => rfl) hW' hb⟩

theorem statesOne_holds : Rows.StatesOneSaid :=
  OpenClaim.holds_of_wide 4 Try.f4 rfl rfl rfl rfl rfl rfl rfl ⟨rfl, rfl, rfl, rfl, rfl⟩ rfl rfl rfl rfl rfl (by kernel_rfl) Try.func4 (by kernel_rfl)
    (of_decide_eq_true (by kernel_rfl)) (by unfold Func.isWrapper; first | (rw [if_pos (by decide +kernel)]; kernel_rfl) | (rw [if_neg (by decide +kernel)]; exact ⟨rfl, rfl⟩))
    (fun os started H enc _ => statesOne_lifted os started H enc)
#print axioms statesOne_holds
end Go.Proofs.Ythcplebmffbmpaa
