/- StatesNames is proved: the numbers are the document's, and the chapter's examples hold: the call returns true. No condition. -/
import Derived.Test.YthcplebmffbmpaaRows
import Derived.Test.YthcplebmffbmpaaLaw
import Derived.Test.YthcplebmffbmpaaStA
import Derived.Test.YthcplebmffbmpaaStB
import Derived.Deep.DeepCutAuto
namespace Go.Proofs.Ythcplebmffbmpaa
open Go.RowKit Go.ChangeShapes Go.WideShapes Go.ChangeAt
set_option linter.unusedSimpArgs false
set_option linter.unusedVariables false
attribute [local go_sem] plus_size plus_drew dn_set dn_alloc dn_plus plus_dn cell_plus frozen_plus set_plus cell_alloc frozen_alloc set_alloc

attribute [local go_sem] eq4_refl eq5_refl

attribute [local go_sem] col_22

attribute [local go_sem] col_23

attribute [local go_sem] col9_22

attribute [local go_sem] col9_23

attribute [local go_sem] col8_22

attribute [local go_sem] col8_23

attribute [local go_sem] kep_37

attribute [local go_sem] kep9_37

attribute [local go_sem] kep8_37

attribute [local go_sem] larr_29

attribute [local go_sem] larr_53

theorem nil_calls (w : World) : Calls Try.prog 8 #[.slice none 0 0] w fun e w' => e = .returned (.tuple #[.agg #[.int .u8 255, .int .u8 255, .int .u8 255, .int .u8 255, .int .i64 (-1), .int .u8 0, .int .i64 0, .bool false, .int .i64 0], .int .i64 0]) ∧ Below w.heap.size w w' :=
  along_calls none 0 0 [] w (by decide) Lay.nil (fun k hk => by omega)
theorem sty_is {er : Int} (s0 s1 s2 s3 s4 : Int) (vr vg vb va vt vc vi : Int) (vl : Bool) (vn : Int) (w : World) (h : styErr ⟨s0, s1, s2, s3, s4, ⟨vr, vg, vb, va, vt, vc, vi, vl, vn⟩⟩ = er) (hB : SyB ⟨s0, s1, s2, s3, s4, ⟨vr, vg, vb, va, vt, vc, vi, vl, vn⟩⟩) : Calls Try.prog 12 #[.agg #[.int .u8 s0, .int .u8 s1, .int .u8 s2, .int .u8 s3, .int .u8 s4, .int .u8 vr, .int .u8 vg, .int .u8 vb, .int .u8 va, .int .i64 vt, .int .u8 vc, .int .i64 vi, .bool vl, .int .i64 vn]] w fun e w' => e = .returned (.int .i64 er) ∧ Below w.heap.size w w' := by
  subst h
  exact sty_calls s0 s1 s2 s3 s4 vr vg vb va vt vc vi vl vn hB w
theorem look_is {er : Int} (ur ug ub ua ut uc ui : Int) (ul : Bool) (un : Int) (w : World) (h : lookErr ⟨ur, ug, ub, ua, ut, uc, ui, ul, un⟩ = er) : Calls Try.prog 13 #[.agg #[.int .u8 ur, .int .u8 ug, .int .u8 ub, .int .u8 ua, .int .i64 ut, .int .u8 uc, .int .i64 ui, .bool ul, .int .i64 un]] w fun e w' => e = .returned (.int .i64 er) ∧ Below w.heap.size w w' := by
  subst h
  exact look_calls ur ug ub ua ut uc ui ul un w

set_option maxRecDepth 100000 in
set_option maxHeartbeats 8000000 in
theorem statesNames_walk (w : World) : Calls Try.prog 3 #[] w fun e w' => e = .returned (.bool true) ∧ Below w.heap.size w w' := by
  go_enter Try.func3, Try.ntmps3
  go_upto_region 4 with (first | (go_at_call 8; refine (plus_post (nil_calls _)).mono ?_; rintro e w' ⟨rfl, n1, rfl⟩) | (go_at_call 9; refine (plus_post (color_calls _ _ _)).mono ?_; rintro e w' ⟨rfl, n2, rfl⟩))
  refine st_world (fun T => (∃ y, T = plus w y) ∧ w.heap.size + (blocks n1).size < T.heap.size ∧ T.cell? ⟨w.heap.size + (blocks n1).size, 0, none⟩ = some (.int .u8 255) ∧ T.cell? ⟨w.heap.size + (blocks n1).size, 1, none⟩ = some (.int .u8 255) ∧ T.cell? ⟨w.heap.size + (blocks n1).size, 2, none⟩ = some (.int .u8 255) ∧ T.cell? ⟨w.heap.size + (blocks n1).size, 3, none⟩ = some (.int .u8 255) ∧ T.cell? ⟨w.heap.size + (blocks n1).size, 4, none⟩ = some (.int .i64 (-1)) ∧ T.cell? ⟨w.heap.size + (blocks n1).size, 5, none⟩ = some (.int .u8 0) ∧ T.cell? ⟨w.heap.size + (blocks n1).size, 6, none⟩ = some (.int .i64 0) ∧ T.cell? ⟨w.heap.size + (blocks n1).size, 7, none⟩ = some (.bool false) ∧ T.cell? ⟨w.heap.size + (blocks n1).size, 8, none⟩ = some (.int .i64 0) ∧ w.heap.size + (blocks n1).size + 1 + (blocks n2).size < T.heap.size ∧ T.cell? ⟨w.heap.size + (blocks n1).size + 1 + (blocks n2).size, 0, none⟩ = some (.int .u8 2) ∧ T.cell? ⟨w.heap.size + (blocks n1).size + 1 + (blocks n2).size, 1, none⟩ = some (.int .u8 0) ∧ T.cell? ⟨w.heap.size + (blocks n1).size + 1 + (blocks n2).size, 2, none⟩ = some (.int .u8 0) ∧ T.cell? ⟨w.heap.size + (blocks n1).size + 1 + (blocks n2).size, 3, none⟩ = some (.int .u8 0) ∧ T.cell? ⟨w.heap.size + (blocks n1).size + 1 + (blocks n2).size, 4, none⟩ = some (.int .u8 0) ∧ T.cell? ⟨w.heap.size + (blocks n1).size + 1 + (blocks n2).size, 5, none⟩ = some (.int .u8 255) ∧ T.cell? ⟨w.heap.size + (blocks n1).size + 1 + (blocks n2).size, 6, none⟩ = some (.int .u8 0) ∧ T.cell? ⟨w.heap.size + (blocks n1).size + 1 + (blocks n2).size, 7, none⟩ = some (.int .u8 0) ∧ T.cell? ⟨w.heap.size + (blocks n1).size + 1 + (blocks n2).size, 8, none⟩ = some (.int .u8 255) ∧ T.cell? ⟨w.heap.size + (blocks n1).size + 1 + (blocks n2).size, 9, none⟩ = some (.int .i64 0) ∧ T.cell? ⟨w.heap.size + (blocks n1).size + 1 + (blocks n2).size, 10, none⟩ = some (.int .u8 0) ∧ T.cell? ⟨w.heap.size + (blocks n1).size + 1 + (blocks n2).size, 11, none⟩ = some (.int .i64 0) ∧ T.cell? ⟨w.heap.size + (blocks n1).size + 1 + (blocks n2).size, 12, none⟩ = some (.bool false) ∧ T.cell? ⟨w.heap.size + (blocks n1).size + 1 + (blocks n2).size, 13, none⟩ = some (.int .i64 0) ∧ w.heap.size + (blocks n1).size + 1 + (blocks n2).size + 1 < T.heap.size ∧ T.cell? ⟨w.heap.size + (blocks n1).size + 1 + (blocks n2).size + 1, 0, none⟩ = some (.int .u8 0) ∧ T.cell? ⟨w.heap.size + (blocks n1).size + 1 + (blocks n2).size + 1, 1, none⟩ = some (.int .u8 0) ∧ T.cell? ⟨w.heap.size + (blocks n1).size + 1 + (blocks n2).size + 1, 2, none⟩ = some (.int .u8 0) ∧ T.cell? ⟨w.heap.size + (blocks n1).size + 1 + (blocks n2).size + 1, 3, none⟩ = some (.int .u8 0) ∧ T.cell? ⟨w.heap.size + (blocks n1).size + 1 + (blocks n2).size + 1, 4, none⟩ = some (.int .u8 0) ∧ T.cell? ⟨w.heap.size + (blocks n1).size + 1 + (blocks n2).size + 1, 5, none⟩ = some (.int .u8 0) ∧ T.cell? ⟨w.heap.size + (blocks n1).size + 1 + (blocks n2).size + 1, 6, none⟩ = some (.int .u8 0) ∧ T.cell? ⟨w.heap.size + (blocks n1).size + 1 + (blocks n2).size + 1, 7, none⟩ = some (.int .u8 0) ∧ T.cell? ⟨w.heap.size + (blocks n1).size + 1 + (blocks n2).size + 1, 8, none⟩ = some (.int .u8 0) ∧ T.cell? ⟨w.heap.size + (blocks n1).size + 1 + (blocks n2).size + 1, 9, none⟩ = some (.int .i64 3) ∧ T.cell? ⟨w.heap.size + (blocks n1).size + 1 + (blocks n2).size + 1, 10, none⟩ = some (.int .u8 0) ∧ T.cell? ⟨w.heap.size + (blocks n1).size + 1 + (blocks n2).size + 1, 11, none⟩ = some (.int .i64 0) ∧ T.cell? ⟨w.heap.size + (blocks n1).size + 1 + (blocks n2).size + 1, 12, none⟩ = some (.bool false) ∧ T.cell? ⟨w.heap.size + (blocks n1).size + 1 + (blocks n2).size + 1, 13, none⟩ = some (.int .i64 0)) ⟨(by with_reducible repeat (first | exact ex_refl _ | exact ex_more | apply ex_alloc | apply ex_plus | apply ex_drew | apply ex_drewN)), (by simp [go_sem]; try omega), (by simp [go_sem, ↓IntWalk.iteOmega]), (by simp [go_sem, ↓IntWalk.iteOmega]), (by simp [go_sem, ↓IntWalk.iteOmega]), (by simp [go_sem, ↓IntWalk.iteOmega]), (by simp [go_sem, ↓IntWalk.iteOmega]), (by simp [go_sem, ↓IntWalk.iteOmega]), (by simp [go_sem, ↓IntWalk.iteOmega]), (by simp [go_sem, ↓IntWalk.iteOmega]), (by simp [go_sem, ↓IntWalk.iteOmega]), (by simp [go_sem]; try omega), (by simp [go_sem, ↓IntWalk.iteOmega]), (by simp [go_sem, ↓IntWalk.iteOmega]), (by simp [go_sem, ↓IntWalk.iteOmega]), (by simp [go_sem, ↓IntWalk.iteOmega]), (by simp [go_sem, ↓IntWalk.iteOmega]), (by simp [go_sem, ↓IntWalk.iteOmega]), (by simp [go_sem, ↓IntWalk.iteOmega]), (by simp [go_sem, ↓IntWalk.iteOmega]), (by simp [go_sem, ↓IntWalk.iteOmega]), (by simp [go_sem, ↓IntWalk.iteOmega]), (by simp [go_sem, ↓IntWalk.iteOmega]), (by simp [go_sem, ↓IntWalk.iteOmega]), (by simp [go_sem, ↓IntWalk.iteOmega]), (by simp [go_sem, ↓IntWalk.iteOmega]), (by simp [go_sem]; try omega), (by simp [go_sem, ↓IntWalk.iteOmega]), (by simp [go_sem, ↓IntWalk.iteOmega]), (by simp [go_sem, ↓IntWalk.iteOmega]), (by simp [go_sem, ↓IntWalk.iteOmega]), (by simp [go_sem, ↓IntWalk.iteOmega]), (by simp [go_sem, ↓IntWalk.iteOmega]), (by simp [go_sem, ↓IntWalk.iteOmega]), (by simp [go_sem, ↓IntWalk.iteOmega]), (by simp [go_sem, ↓IntWalk.iteOmega]), (by simp [go_sem, ↓IntWalk.iteOmega]), (by simp [go_sem, ↓IntWalk.iteOmega]), (by simp [go_sem, ↓IntWalk.iteOmega]), (by simp [go_sem, ↓IntWalk.iteOmega]), (by simp [go_sem, ↓IntWalk.iteOmega])⟩ ?_
  rintro T ⟨hT, hz0, x0_0, x0_1, x0_2, x0_3, x0_4, x0_5, x0_6, x0_7, x0_8, hz1, x1_0, x1_1, x1_2, x1_3, x1_4, x1_5, x1_6, x1_7, x1_8, x1_9, x1_10, x1_11, x1_12, x1_13, hz2, x2_0, x2_1, x2_2, x2_3, x2_4, x2_5, x2_6, x2_7, x2_8, x2_9, x2_10, x2_11, x2_12, x2_13⟩
  generalize w.heap.size + (blocks n1).size = A at *
  generalize A + 1 + (blocks n2).size = B at *
  generalize B + 1 = D at *
  go_wp2_with (first | (go_at_call 9; refine (plus_in (T := T) (by with_reducible repeat (first | exact ex_refl _ | exact ex_more | apply ex_alloc | apply ex_plus | apply ex_drew | apply ex_drewN)) (color_calls _ _ _)).mono ?_; rintro e w' ⟨rfl, nx, rfl⟩) | (go_at_call 10; refine (plus_in (T := T) (by with_reducible repeat (first | exact ex_refl _ | exact ex_more | apply ex_alloc | apply ex_plus | apply ex_drew | apply ex_drewN)) (reds_calls _ _ _ (cols [(true, 7), (false, 1)]) _ (by decide) (by exact lay_new (plus_size _ _).symm (by decide) (by rfl)) (by exact cols_b [(true, 7), (false, 1)] (by decide)) (by decide +kernel) (by decide +kernel))).mono ?_; rintro e w' ⟨rfl, nx, rfl⟩) | (go_at_call 10; refine (plus_in (T := T) (by with_reducible repeat (first | exact ex_refl _ | exact ex_more | apply ex_alloc | apply ex_plus | apply ex_drew | apply ex_drewN)) (reds_calls _ _ _ (cols [(true, 3), (false, 7), (true, 5)]) _ (by decide) (by exact lay_new (plus_size _ _).symm (by decide) (by rfl)) (by exact cols_b [(true, 3), (false, 7), (true, 5)] (by decide)) (by decide +kernel) (by decide +kernel))).mono ?_; rintro e w' ⟨rfl, nx, rfl⟩) | (go_at_call 11; refine (plus_in (T := T) (by with_reducible repeat (first | exact ex_refl _ | exact ex_more | apply ex_alloc | apply ex_plus | apply ex_drew | apply ex_drewN)) (alive_calls _)).mono ?_; rintro e w' ⟨rfl, nx, rfl⟩) | (go_at_call 12; refine (plus_in (T := T) (by with_reducible repeat (first | exact ex_refl _ | exact ex_more | apply ex_alloc | apply ex_plus | apply ex_drew | apply ex_drewN)) (sty_is _ _ _ _ _ _ _ _ _ _ _ _ _ _ _ (er := 8) (by decide +kernel) ⟨⟨by decide, by decide⟩, ⟨by decide, by decide⟩, ⟨by decide, by decide⟩, ⟨by decide, by decide⟩, ⟨by decide, by decide⟩, ⟨⟨by decide, by decide⟩, ⟨by decide, by decide⟩, ⟨by decide, by decide⟩, ⟨by decide, by decide⟩, ⟨by decide, by decide⟩⟩⟩)).mono ?_; rintro e w' ⟨rfl, nx, rfl⟩) | (go_at_call 12; refine (plus_in (T := T) (by with_reducible repeat (first | exact ex_refl _ | exact ex_more | apply ex_alloc | apply ex_plus | apply ex_drew | apply ex_drewN)) (sty_is _ _ _ _ _ _ _ _ _ _ _ _ _ _ _ (er := 0) (by decide +kernel) ⟨⟨by decide, by decide⟩, ⟨by decide, by decide⟩, ⟨by decide, by decide⟩, ⟨by decide, by decide⟩, ⟨by decide, by decide⟩, ⟨⟨by decide, by decide⟩, ⟨by decide, by decide⟩, ⟨by decide, by decide⟩, ⟨by decide, by decide⟩, ⟨by decide, by decide⟩⟩⟩)).mono ?_; rintro e w' ⟨rfl, nx, rfl⟩) | (go_at_call 13; refine (plus_in (T := T) (by with_reducible repeat (first | exact ex_refl _ | exact ex_more | apply ex_alloc | apply ex_plus | apply ex_drew | apply ex_drewN)) (look_is _ _ _ _ _ _ _ _ _ _ (er := 8) (by decide +kernel))).mono ?_; rintro e w' ⟨rfl, nx, rfl⟩))
  go_ret
  exact ⟨rfl, st_below hT (by with_reducible repeat (first | exact ex_refl _ | exact ex_more | apply ex_alloc | apply ex_plus | apply ex_drew | apply ex_drewN))⟩

set_option maxRecDepth 100000 in
theorem statesNames_lifted (os : Os) (started : os.Started) (H : Type) (enc : TypeId × Value → H) :
    ReturnsInHanded {} Try.checked os 3 .any (Rows.statesNamesSpec.pre6 enc Try.prog Try.f3 Rows.statesNamesRow.domain false) (Rows.statesNamesSpec.post enc Try.prog Try.f3 false true false false) := by
  refine returnsInHanded_of_change (C := Try.checked) own started (by kernel_rfl) Try.func3
    (ChangeSpec.witness6 (enc := enc) (C := Try.checked) false ⟨#[], #[], []⟩ 8 (by kernel_rfl) (by kernel_rfl) (by kernel_rfl) (by kernel_rfl)) ?_
  intro W base args ds gs before hval0 hW hcnd _
  have hval : ∀ (j : Nat) t v, Try.f3.params[j]? = some t → args[j]? = some v → Value.okWide Try.prog W .any base t v := hval0
  have hW' := hW
  obtain ⟨p, q, hA0, hV, rfl, hfz, hnd⟩ := hW
  have hA : DataW.TrodAll enc Try.prog W 0 (fun _ => true) true Try.f3.params.toList args.toList ds p := hA0
  rw [Try.params3] at hA hval
  obtain ⟨hargs, rfl, rfl⟩ := trodAll_nil hA
  obtain rfl : args = #[] := by cases args; simp_all
  refine (statesNames_walk   W ).mono fun e W' ⟨he, hb⟩ => ?_
  exact ⟨_, he, law_post laidOut Try.underlying4 rfl (by kernel_rfl) (by kernel_rfl) (fun ds h => match ds, h with | [], _ => rfl) hW' hb⟩

theorem statesNames_holds : Rows.StatesNamesSaid :=
  OpenClaim.holds_of_wide 3 Try.f3 rfl rfl rfl rfl rfl rfl rfl ⟨rfl, rfl, rfl, rfl, rfl⟩ rfl rfl rfl rfl rfl (by kernel_rfl) Try.func3 (by kernel_rfl)
    (of_decide_eq_true (by kernel_rfl)) (by unfold Func.isWrapper; first | (rw [if_pos (by decide +kernel)]; kernel_rfl) | (rw [if_neg (by decide +kernel)]; exact ⟨rfl, rfl⟩))
    (fun os started H enc _ => statesNames_lifted os started H enc)
#print axioms statesNames_holds
end Go.Proofs.Ythcplebmffbmpaa
