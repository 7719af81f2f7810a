/- StatesQuiet is proved: for every look on the way down and every style: a style that says nothing changes nothing, and what is under a style has its values where nothing was kept. -/
import Derived.Test.YthcplebmffbmpaaRows
import Derived.Test.YthcplebmffbmpaaLaw
import Derived.Test.YthcplebmffbmpaaStA
import Derived.Test.YthcplebmffbmpaaStB
import Derived.Test.YthcplebmffbmpaaStT
import Derived.Deep.DeepCutAuto
namespace Go.Proofs.Ythcplebmffbmpaa
open Go.RowKit Go.ChangeShapes Go.WideShapes Go.ChangeAt
set_option linter.unusedSimpArgs false
set_option linter.unusedVariables false
attribute [local go_sem] plus_size plus_drew dn_set dn_alloc dn_plus plus_dn cell_plus frozen_plus set_plus cell_alloc frozen_alloc set_alloc

attribute [local go_sem] eq4_refl eq5_refl

attribute [local go_sem] col_22

attribute [local go_sem] col_23

attribute [local go_sem] col9_22

attribute [local go_sem] col9_23

attribute [local go_sem] col8_22

attribute [local go_sem] col8_23

attribute [local go_sem] kep_37

attribute [local go_sem] kep9_37

attribute [local go_sem] kep8_37

attribute [local go_sem] larr_29

attribute [local go_sem] larr_53

theorem under_is {M : Ih} {er : Int} (ur ug ub ua ut uc ui : Int) (ul : Bool) (un : Int) (k0 k1 k2 k3 k4 : Bool) (s0 s1 s2 s3 s4 : Int) (vr vg vb va vt vc vi : Int) (vl : Bool) (vn : Int) (w : World) (hB : SyB ⟨s0, s1, s2, s3, s4, ⟨vr, vg, vb, va, vt, vc, vi, vl, vn⟩⟩) (h : under ⟨⟨ur, ug, ub, ua, ut, uc, ui, ul, un⟩, k0, k1, k2, k3, k4⟩ ⟨s0, s1, s2, s3, s4, ⟨vr, vg, vb, va, vt, vc, vi, vl, vn⟩⟩ = M ∧ underErr ⟨⟨ur, ug, ub, ua, ut, uc, ui, ul, un⟩, k0, k1, k2, k3, k4⟩ ⟨s0, s1, s2, s3, s4, ⟨vr, vg, vb, va, vt, vc, vi, vl, vn⟩⟩ = er) :
    Calls Try.prog 14 #[.agg #[.int .u8 ur, .int .u8 ug, .int .u8 ub, .int .u8 ua, .int .i64 ut, .int .u8 uc, .int .i64 ui, .bool ul, .int .i64 un, .bool k0, .bool k1, .bool k2, .bool k3, .bool k4], .agg #[.int .u8 s0, .int .u8 s1, .int .u8 s2, .int .u8 s3, .int .u8 s4, .int .u8 vr, .int .u8 vg, .int .u8 vb, .int .u8 va, .int .i64 vt, .int .u8 vc, .int .i64 vi, .bool vl, .int .i64 vn]] w fun e w' => e = .returned (.tuple #[.agg #[.int .u8 M.l.r, .int .u8 M.l.g, .int .u8 M.l.b, .int .u8 M.l.a, .int .i64 M.l.tx, .int .u8 M.l.cu, .int .i64 M.l.bi, .bool M.l.bl, .int .i64 M.l.bn, .bool M.k0, .bool M.k1, .bool M.k2, .bool M.k3, .bool M.k4], .int .i64 er]) ∧ Below w.heap.size w w' := by
  obtain ⟨rfl, rfl⟩ := h
  exact under_calls ur ug ub ua ut uc ui ul un k0 k1 k2 k3 k4 s0 s1 s2 s3 s4 vr vg vb va vt vc vi vl vn hB w
theorem zs_b : SyB ⟨0, 0, 0, 0, 0, ⟨0, 0, 0, 0, 0, 0, 0, false, 0⟩⟩ := ⟨⟨by decide, by decide⟩, ⟨by decide, by decide⟩, ⟨by decide, by decide⟩, ⟨by decide, by decide⟩, ⟨by decide, by decide⟩, ⟨⟨by decide, by decide⟩, ⟨by decide, by decide⟩, ⟨by decide, by decide⟩, ⟨by decide, by decide⟩, ⟨by decide, by decide⟩⟩⟩
theorem zs_ok : styOk ⟨0, 0, 0, 0, 0, ⟨0, 0, 0, 0, 0, 0, 0, false, 0⟩⟩ = true := by decide +kernel

set_option maxRecDepth 100000 in
set_option maxHeartbeats 8000000 in
theorem statesQuiet_a (ur ug ub ua ut uc ui : Int) (ul : Bool) (un : Int) (k0 k1 k2 k3 k4 : Bool) (s0 s1 s2 s3 s4 : Int) (vr vg vb va vt vc vi : Int) (vl : Bool) (vn : Int) (w : World) (hi : LkB ⟨ur, ug, ub, ua, ut, uc, ui, ul, un⟩) (hB : SyB ⟨s0, s1, s2, s3, s4, ⟨vr, vg, vb, va, vt, vc, vi, vl, vn⟩⟩) (hL : lookOk ⟨ur, ug, ub, ua, ut, uc, ui, ul, un⟩ = false) :
    Calls Try.prog 7 #[.agg #[.int .u8 ur, .int .u8 ug, .int .u8 ub, .int .u8 ua, .int .i64 ut, .int .u8 uc, .int .i64 ui, .bool ul, .int .i64 un, .bool k0, .bool k1, .bool k2, .bool k3, .bool k4], .agg #[.int .u8 s0, .int .u8 s1, .int .u8 s2, .int .u8 s3, .int .u8 s4, .int .u8 vr, .int .u8 vg, .int .u8 vb, .int .u8 va, .int .i64 vt, .int .u8 vc, .int .i64 vi, .bool vl, .int .i64 vn]] w fun e w' => e = .returned (.bool true) ∧ Below w.heap.size w w' := by
  have hz : under ⟨⟨ur, ug, ub, ua, ut, uc, ui, ul, un⟩, k0, k1, k2, k3, k4⟩ ⟨0, 0, 0, 0, 0, ⟨0, 0, 0, 0, 0, 0, 0, false, 0⟩⟩ = ih0 ∧ underErr ⟨⟨ur, ug, ub, ua, ut, uc, ui, ul, un⟩, k0, k1, k2, k3, k4⟩ ⟨0, 0, 0, 0, 0, ⟨0, 0, 0, 0, 0, 0, 0, false, 0⟩⟩ = 8 := ⟨by rw [under, underOk, hL]; rfl, by rw [underErr, underOk, hL]; rfl⟩
  have hs : under ⟨⟨ur, ug, ub, ua, ut, uc, ui, ul, un⟩, k0, k1, k2, k3, k4⟩ ⟨s0, s1, s2, s3, s4, ⟨vr, vg, vb, va, vt, vc, vi, vl, vn⟩⟩ = ih0 ∧ underErr ⟨⟨ur, ug, ub, ua, ut, uc, ui, ul, un⟩, k0, k1, k2, k3, k4⟩ ⟨s0, s1, s2, s3, s4, ⟨vr, vg, vb, va, vt, vc, vi, vl, vn⟩⟩ = 8 := ⟨by rw [under, underOk, hL]; rfl, by rw [underErr, underOk, hL]; rfl⟩
  go_enter Try.func7, Try.ntmps7
  go_upto_region 5 with (first | (go_at_call 11; refine (plus_in (T := ((w.alloc (.cells #[.int .u8 ur, .int .u8 ug, .int .u8 ub, .int .u8 ua, .int .i64 ut, .int .u8 uc, .int .i64 ui, .bool ul, .int .i64 un, .bool k0, .bool k1, .bool k2, .bool k3, .bool k4] 39)).alloc (.cells #[.int .u8 s0, .int .u8 s1, .int .u8 s2, .int .u8 s3, .int .u8 s4, .int .u8 vr, .int .u8 vg, .int .u8 vb, .int .u8 va, .int .i64 vt, .int .u8 vc, .int .i64 vi, .bool vl, .int .i64 vn] 31))) (by with_reducible repeat (first | exact ex_refl _ | exact ex_more | apply ex_alloc | apply ex_plus | apply ex_drew | apply ex_drewN)) (alive_calls _)).mono ?_; rintro e w' ⟨rfl, n0, rfl⟩) | (go_at_call 14; refine (plus_in (T := ((w.alloc (.cells #[.int .u8 ur, .int .u8 ug, .int .u8 ub, .int .u8 ua, .int .i64 ut, .int .u8 uc, .int .i64 ui, .bool ul, .int .i64 un, .bool k0, .bool k1, .bool k2, .bool k3, .bool k4] 39)).alloc (.cells #[.int .u8 s0, .int .u8 s1, .int .u8 s2, .int .u8 s3, .int .u8 s4, .int .u8 vr, .int .u8 vg, .int .u8 vb, .int .u8 va, .int .i64 vt, .int .u8 vc, .int .i64 vi, .bool vl, .int .i64 vn] 31))) (by with_reducible repeat (first | exact ex_refl _ | exact ex_more | apply ex_alloc | apply ex_plus | apply ex_drew | apply ex_drewN)) (under_is _ _ _ _ _ _ _ _ _ _ _ _ _ _ _ _ _ _ _ _ _ _ _ _ _ _ _ _ _ zs_b hz)).mono ?_; rintro e w' ⟨rfl, n1, rfl⟩))
  go_wp2_with (go_at_call 14; refine (plus_post (under_is _ _ _ _ _ _ _ _ _ _ _ _ _ _ _ _ _ _ _ _ _ _ _ _ _ _ _ _ _ hB hs)).mono ?_; rintro e w' ⟨rfl, n2, rfl⟩)
  go_ret
  exact ⟨rfl, by with_reducible repeat (first | exact Below.refl _ _ | apply ba | apply bp | apply bd | apply bn)⟩

set_option maxRecDepth 100000 in
set_option maxHeartbeats 8000000 in
theorem statesQuiet_b (ur ug ub ua ut uc ui : Int) (ul : Bool) (un : Int) (k0 k1 k2 k3 k4 : Bool) (s0 s1 s2 s3 s4 : Int) (vr vg vb va vt vc vi : Int) (vl : Bool) (vn : Int) (w : World) (hi : LkB ⟨ur, ug, ub, ua, ut, uc, ui, ul, un⟩) (hB : SyB ⟨s0, s1, s2, s3, s4, ⟨vr, vg, vb, va, vt, vc, vi, vl, vn⟩⟩) (hL : lookOk ⟨ur, ug, ub, ua, ut, uc, ui, ul, un⟩ = true) (hY : styOk ⟨s0, s1, s2, s3, s4, ⟨vr, vg, vb, va, vt, vc, vi, vl, vn⟩⟩ = false) :
    Calls Try.prog 7 #[.agg #[.int .u8 ur, .int .u8 ug, .int .u8 ub, .int .u8 ua, .int .i64 ut, .int .u8 uc, .int .i64 ui, .bool ul, .int .i64 un, .bool k0, .bool k1, .bool k2, .bool k3, .bool k4], .agg #[.int .u8 s0, .int .u8 s1, .int .u8 s2, .int .u8 s3, .int .u8 s4, .int .u8 vr, .int .u8 vg, .int .u8 vb, .int .u8 va, .int .i64 vt, .int .u8 vc, .int .i64 vi, .bool vl, .int .i64 vn]] w fun e w' => e = .returned (.bool true) ∧ Below w.heap.size w w' := by
  have hz : under ⟨⟨ur, ug, ub, ua, ut, uc, ui, ul, un⟩, k0, k1, k2, k3, k4⟩ ⟨0, 0, 0, 0, 0, ⟨0, 0, 0, 0, 0, 0, 0, false, 0⟩⟩ = ⟨⟨ur, ug, ub, ua, ut, uc, ui, ul, un⟩, k0, k1, k2, k3, k4⟩ ∧ underErr ⟨⟨ur, ug, ub, ua, ut, uc, ui, ul, un⟩, k0, k1, k2, k3, k4⟩ ⟨0, 0, 0, 0, 0, ⟨0, 0, 0, 0, 0, 0, 0, false, 0⟩⟩ = 0 := ⟨by rw [under, underOk, hL, zs_ok]; exact made_quiet (by decide), by rw [underErr, underOk, hL, zs_ok]; rfl⟩
  have hs : under ⟨⟨ur, ug, ub, ua, ut, uc, ui, ul, un⟩, k0, k1, k2, k3, k4⟩ ⟨s0, s1, s2, s3, s4, ⟨vr, vg, vb, va, vt, vc, vi, vl, vn⟩⟩ = ih0 ∧ underErr ⟨⟨ur, ug, ub, ua, ut, uc, ui, ul, un⟩, k0, k1, k2, k3, k4⟩ ⟨s0, s1, s2, s3, s4, ⟨vr, vg, vb, va, vt, vc, vi, vl, vn⟩⟩ = 8 := ⟨by rw [under, underOk, hY, Bool.and_false]; rfl, by rw [underErr, underOk, hY, Bool.and_false]; rfl⟩
  go_enter Try.func7, Try.ntmps7
  go_upto_region 5 with (first | (go_at_call 11; refine (plus_in (T := ((w.alloc (.cells #[.int .u8 ur, .int .u8 ug, .int .u8 ub, .int .u8 ua, .int .i64 ut, .int .u8 uc, .int .i64 ui, .bool ul, .int .i64 un, .bool k0, .bool k1, .bool k2, .bool k3, .bool k4] 39)).alloc (.cells #[.int .u8 s0, .int .u8 s1, .int .u8 s2, .int .u8 s3, .int .u8 s4, .int .u8 vr, .int .u8 vg, .int .u8 vb, .int .u8 va, .int .i64 vt, .int .u8 vc, .int .i64 vi, .bool vl, .int .i64 vn] 31))) (by with_reducible repeat (first | exact ex_refl _ | exact ex_more | apply ex_alloc | apply ex_plus | apply ex_drew | apply ex_drewN)) (alive_calls _)).mono ?_; rintro e w' ⟨rfl, n0, rfl⟩) | (go_at_call 14; refine (plus_in (T := ((w.alloc (.cells #[.int .u8 ur, .int .u8 ug, .int .u8 ub, .int .u8 ua, .int .i64 ut, .int .u8 uc, .int .i64 ui, .bool ul, .int .i64 un, .bool k0, .bool k1, .bool k2, .bool k3, .bool k4] 39)).alloc (.cells #[.int .u8 s0, .int .u8 s1, .int .u8 s2, .int .u8 s3, .int .u8 s4, .int .u8 vr, .int .u8 vg, .int .u8 vb, .int .u8 va, .int .i64 vt, .int .u8 vc, .int .i64 vi, .bool vl, .int .i64 vn] 31))) (by with_reducible repeat (first | exact ex_refl _ | exact ex_more | apply ex_alloc | apply ex_plus | apply ex_drew | apply ex_drewN)) (under_is _ _ _ _ _ _ _ _ _ _ _ _ _ _ _ _ _ _ _ _ _ _ _ _ _ _ _ _ _ zs_b hz)).mono ?_; rintro e w' ⟨rfl, n1, rfl⟩))
  go_wp2_with (go_at_call 14; refine (plus_post (under_is _ _ _ _ _ _ _ _ _ _ _ _ _ _ _ _ _ _ _ _ _ _ _ _ _ _ _ _ _ hB hs)).mono ?_; rintro e w' ⟨rfl, n2, rfl⟩)
  go_ret
  exact ⟨rfl, by with_reducible repeat (first | exact Below.refl _ _ | apply ba | apply bp | apply bd | apply bn)⟩

set_option maxRecDepth 100000 in
set_option maxHeartbeats 8000000 in
theorem statesQuiet_c (ur ug ub ua ut uc ui : Int) (ul : Bool) (un : Int) (k0 k1 k2 k3 k4 : Bool) (s0 s1 s2 s3 s4 : Int) (vr vg vb va vt vc vi : Int) (vl : Bool) (vn : Int) (w : World) (hi : LkB ⟨ur, ug, ub, ua, ut, uc, ui, ul, un⟩) (hB : SyB ⟨s0, s1, s2, s3, s4, ⟨vr, vg, vb, va, vt, vc, vi, vl, vn⟩⟩) (hL : lookOk ⟨ur, ug, ub, ua, ut, uc, ui, ul, un⟩ = true) (hY : styOk ⟨s0, s1, s2, s3, s4, ⟨vr, vg, vb, va, vt, vc, vi, vl, vn⟩⟩ = true) :
    Calls Try.prog 7 #[.agg #[.int .u8 ur, .int .u8 ug, .int .u8 ub, .int .u8 ua, .int .i64 ut, .int .u8 uc, .int .i64 ui, .bool ul, .int .i64 un, .bool k0, .bool k1, .bool k2, .bool k3, .bool k4], .agg #[.int .u8 s0, .int .u8 s1, .int .u8 s2, .int .u8 s3, .int .u8 s4, .int .u8 vr, .int .u8 vg, .int .u8 vb, .int .u8 va, .int .i64 vt, .int .u8 vc, .int .i64 vi, .bool vl, .int .i64 vn]] w fun e w' => e = .returned (.bool true) ∧ Below w.heap.size w w' := by
  have hz : under ⟨⟨ur, ug, ub, ua, ut, uc, ui, ul, un⟩, k0, k1, k2, k3, k4⟩ ⟨0, 0, 0, 0, 0, ⟨0, 0, 0, 0, 0, 0, 0, false, 0⟩⟩ = ⟨⟨ur, ug, ub, ua, ut, uc, ui, ul, un⟩, k0, k1, k2, k3, k4⟩ ∧ underErr ⟨⟨ur, ug, ub, ua, ut, uc, ui, ul, un⟩, k0, k1, k2, k3, k4⟩ ⟨0, 0, 0, 0, 0, ⟨0, 0, 0, 0, 0, 0, 0, false, 0⟩⟩ = 0 := ⟨by rw [under, underOk, hL, zs_ok]; exact made_quiet (by decide), by rw [underErr, underOk, hL, zs_ok]; rfl⟩
  obtain ⟨M, hM⟩ : ∃ M, made ⟨⟨ur, ug, ub, ua, ut, uc, ui, ul, un⟩, k0, k1, k2, k3, k4⟩ ⟨s0, s1, s2, s3, s4, ⟨vr, vg, vb, va, vt, vc, vi, vl, vn⟩⟩ = M := ⟨_, rfl⟩
  have hs : under ⟨⟨ur, ug, ub, ua, ut, uc, ui, ul, un⟩, k0, k1, k2, k3, k4⟩ ⟨s0, s1, s2, s3, s4, ⟨vr, vg, vb, va, vt, vc, vi, vl, vn⟩⟩ = M ∧ underErr ⟨⟨ur, ug, ub, ua, ut, uc, ui, ul, un⟩, k0, k1, k2, k3, k4⟩ ⟨s0, s1, s2, s3, s4, ⟨vr, vg, vb, va, vt, vc, vi, vl, vn⟩⟩ = 0 := ⟨by rw [under, underOk, hL, hY]; exact hM, by rw [underErr, underOk, hL, hY]; rfl⟩
  have hyb : LkB M.l := by rw [← hM]; exact made_bound hi hB.l
  have hvb := hB.l
  rw [made_eq] at hM
  obtain ⟨⟨mr, mg, mb, ma, mt, mc, mi, ml, mn⟩, m0, m1, m2, m3, m4⟩ := M
  simp only [Ih.mk.injEq, Lk.mk.injEq] at hM
  replace hM := Hid.mk hM
  go_enter Try.func7, Try.ntmps7
  go_upto_region 5 with (first | (go_at_call 11; refine (plus_in (T := ((w.alloc (.cells #[.int .u8 ur, .int .u8 ug, .int .u8 ub, .int .u8 ua, .int .i64 ut, .int .u8 uc, .int .i64 ui, .bool ul, .int .i64 un, .bool k0, .bool k1, .bool k2, .bool k3, .bool k4] 39)).alloc (.cells #[.int .u8 s0, .int .u8 s1, .int .u8 s2, .int .u8 s3, .int .u8 s4, .int .u8 vr, .int .u8 vg, .int .u8 vb, .int .u8 va, .int .i64 vt, .int .u8 vc, .int .i64 vi, .bool vl, .int .i64 vn] 31))) (by with_reducible repeat (first | exact ex_refl _ | exact ex_more | apply ex_alloc | apply ex_plus | apply ex_drew | apply ex_drewN)) (alive_calls _)).mono ?_; rintro e w' ⟨rfl, n0, rfl⟩) | (go_at_call 14; refine (plus_in (T := ((w.alloc (.cells #[.int .u8 ur, .int .u8 ug, .int .u8 ub, .int .u8 ua, .int .i64 ut, .int .u8 uc, .int .i64 ui, .bool ul, .int .i64 un, .bool k0, .bool k1, .bool k2, .bool k3, .bool k4] 39)).alloc (.cells #[.int .u8 s0, .int .u8 s1, .int .u8 s2, .int .u8 s3, .int .u8 s4, .int .u8 vr, .int .u8 vg, .int .u8 vb, .int .u8 va, .int .i64 vt, .int .u8 vc, .int .i64 vi, .bool vl, .int .i64 vn] 31))) (by with_reducible repeat (first | exact ex_refl _ | exact ex_more | apply ex_alloc | apply ex_plus | apply ex_drew | apply ex_drewN)) (under_is _ _ _ _ _ _ _ _ _ _ _ _ _ _ _ _ _ _ _ _ _ _ _ _ _ _ _ _ _ zs_b hz)).mono ?_; rintro e w' ⟨rfl, n1, rfl⟩))
  go_wp2_with (go_at_call 14; refine (plus_post (under_is _ _ _ _ _ _ _ _ _ _ _ _ _ _ _ _ _ _ _ _ _ _ _ _ _ _ _ _ _ hB hs)).mono ?_; rintro e w' ⟨rfl, n2, rfl⟩)
  clear hz hs
  refine st_world (fun T => (∃ y, T = plus w y) ∧ w.heap.size < T.heap.size ∧ T.cell? ⟨w.heap.size, 0, none⟩ = some (.int .u8 ur) ∧ T.cell? ⟨w.heap.size, 1, none⟩ = some (.int .u8 ug) ∧ T.cell? ⟨w.heap.size, 2, none⟩ = some (.int .u8 ub) ∧ T.cell? ⟨w.heap.size, 3, none⟩ = some (.int .u8 ua) ∧ T.cell? ⟨w.heap.size, 4, none⟩ = some (.int .i64 ut) ∧ T.cell? ⟨w.heap.size, 5, none⟩ = some (.int .u8 uc) ∧ T.cell? ⟨w.heap.size, 6, none⟩ = some (.int .i64 ui) ∧ T.cell? ⟨w.heap.size, 7, none⟩ = some (.bool ul) ∧ T.cell? ⟨w.heap.size, 8, none⟩ = some (.int .i64 un) ∧ T.cell? ⟨w.heap.size, 9, none⟩ = some (.bool k0) ∧ T.cell? ⟨w.heap.size, 10, none⟩ = some (.bool k1) ∧ T.cell? ⟨w.heap.size, 11, none⟩ = some (.bool k2) ∧ T.cell? ⟨w.heap.size, 12, none⟩ = some (.bool k3) ∧ T.cell? ⟨w.heap.size, 13, none⟩ = some (.bool k4) ∧ w.heap.size + 1 < T.heap.size ∧ T.cell? ⟨w.heap.size + 1, 0, none⟩ = some (.int .u8 s0) ∧ T.cell? ⟨w.heap.size + 1, 1, none⟩ = some (.int .u8 s1) ∧ T.cell? ⟨w.heap.size + 1, 2, none⟩ = some (.int .u8 s2) ∧ T.cell? ⟨w.heap.size + 1, 3, none⟩ = some (.int .u8 s3) ∧ T.cell? ⟨w.heap.size + 1, 4, none⟩ = some (.int .u8 s4) ∧ T.cell? ⟨w.heap.size + 1, 5, none⟩ = some (.int .u8 vr) ∧ T.cell? ⟨w.heap.size + 1, 6, none⟩ = some (.int .u8 vg) ∧ T.cell? ⟨w.heap.size + 1, 7, none⟩ = some (.int .u8 vb) ∧ T.cell? ⟨w.heap.size + 1, 8, none⟩ = some (.int .u8 va) ∧ T.cell? ⟨w.heap.size + 1, 9, none⟩ = some (.int .i64 vt) ∧ T.cell? ⟨w.heap.size + 1, 10, none⟩ = some (.int .u8 vc) ∧ T.cell? ⟨w.heap.size + 1, 11, none⟩ = some (.int .i64 vi) ∧ T.cell? ⟨w.heap.size + 1, 12, none⟩ = some (.bool vl) ∧ T.cell? ⟨w.heap.size + 1, 13, none⟩ = some (.int .i64 vn) ∧ w.heap.size + 1 + 1 + (blocks n1).size + 1 + (blocks n2).size < T.heap.size ∧ T.cell? ⟨w.heap.size + 1 + 1 + (blocks n1).size + 1 + (blocks n2).size, 0, none⟩ = some (.int .u8 mr) ∧ T.cell? ⟨w.heap.size + 1 + 1 + (blocks n1).size + 1 + (blocks n2).size, 1, none⟩ = some (.int .u8 mg) ∧ T.cell? ⟨w.heap.size + 1 + 1 + (blocks n1).size + 1 + (blocks n2).size, 2, none⟩ = some (.int .u8 mb) ∧ T.cell? ⟨w.heap.size + 1 + 1 + (blocks n1).size + 1 + (blocks n2).size, 3, none⟩ = some (.int .u8 ma) ∧ T.cell? ⟨w.heap.size + 1 + 1 + (blocks n1).size + 1 + (blocks n2).size, 4, none⟩ = some (.int .i64 mt) ∧ T.cell? ⟨w.heap.size + 1 + 1 + (blocks n1).size + 1 + (blocks n2).size, 5, none⟩ = some (.int .u8 mc) ∧ T.cell? ⟨w.heap.size + 1 + 1 + (blocks n1).size + 1 + (blocks n2).size, 6, none⟩ = some (.int .i64 mi) ∧ T.cell? ⟨w.heap.size + 1 + 1 + (blocks n1).size + 1 + (blocks n2).size, 7, none⟩ = some (.bool ml) ∧ T.cell? ⟨w.heap.size + 1 + 1 + (blocks n1).size + 1 + (blocks n2).size, 8, none⟩ = some (.int .i64 mn) ∧ T.cell? ⟨w.heap.size + 1 + 1 + (blocks n1).size + 1 + (blocks n2).size, 9, none⟩ = some (.bool m0) ∧ T.cell? ⟨w.heap.size + 1 + 1 + (blocks n1).size + 1 + (blocks n2).size, 10, none⟩ = some (.bool m1) ∧ T.cell? ⟨w.heap.size + 1 + 1 + (blocks n1).size + 1 + (blocks n2).size, 11, none⟩ = some (.bool m2) ∧ T.cell? ⟨w.heap.size + 1 + 1 + (blocks n1).size + 1 + (blocks n2).size, 12, none⟩ = some (.bool m3) ∧ T.cell? ⟨w.heap.size + 1 + 1 + (blocks n1).size + 1 + (blocks n2).size, 13, none⟩ = some (.bool m4)) ⟨(by with_reducible repeat (first | exact ex_refl _ | exact ex_more | apply ex_alloc | apply ex_plus | apply ex_drew | apply ex_drewN)), (by simp [go_sem]; try omega), (by simp [go_sem, ↓IntWalk.iteOmega]), (by simp [go_sem, ↓IntWalk.iteOmega]), (by simp [go_sem, ↓IntWalk.iteOmega]), (by simp [go_sem, ↓IntWalk.iteOmega]), (by simp [go_sem, ↓IntWalk.iteOmega]), (by simp [go_sem, ↓IntWalk.iteOmega]), (by simp [go_sem, ↓IntWalk.iteOmega]), (by simp [go_sem, ↓IntWalk.iteOmega]), (by simp [go_sem, ↓IntWalk.iteOmega]), (by simp [go_sem, ↓IntWalk.iteOmega]), (by simp [go_sem, ↓IntWalk.iteOmega]), (by simp [go_sem, ↓IntWalk.iteOmega]), (by simp [go_sem, ↓IntWalk.iteOmega]), (by simp [go_sem, ↓IntWalk.iteOmega]), (by simp [go_sem]; try omega), (by simp [go_sem, ↓IntWalk.iteOmega]), (by simp [go_sem, ↓IntWalk.iteOmega]), (by simp [go_sem, ↓IntWalk.iteOmega]), (by simp [go_sem, ↓IntWalk.iteOmega]), (by simp [go_sem, ↓IntWalk.iteOmega]), (by simp [go_sem, ↓IntWalk.iteOmega]), (by simp [go_sem, ↓IntWalk.iteOmega]), (by simp [go_sem, ↓IntWalk.iteOmega]), (by simp [go_sem, ↓IntWalk.iteOmega]), (by simp [go_sem, ↓IntWalk.iteOmega]), (by simp [go_sem, ↓IntWalk.iteOmega]), (by simp [go_sem, ↓IntWalk.iteOmega]), (by simp [go_sem, ↓IntWalk.iteOmega]), (by simp [go_sem, ↓IntWalk.iteOmega]), (by simp [go_sem]; try omega), (by simp [go_sem, ↓IntWalk.iteOmega]), (by simp [go_sem, ↓IntWalk.iteOmega]), (by simp [go_sem, ↓IntWalk.iteOmega]), (by simp [go_sem, ↓IntWalk.iteOmega]), (by simp [go_sem, ↓IntWalk.iteOmega]), (by simp [go_sem, ↓IntWalk.iteOmega]), (by simp [go_sem, ↓IntWalk.iteOmega]), (by simp [go_sem, ↓IntWalk.iteOmega]), (by simp [go_sem, ↓IntWalk.iteOmega]), (by simp [go_sem, ↓IntWalk.iteOmega]), (by simp [go_sem, ↓IntWalk.iteOmega]), (by simp [go_sem, ↓IntWalk.iteOmega]), (by simp [go_sem, ↓IntWalk.iteOmega]), (by simp [go_sem, ↓IntWalk.iteOmega])⟩ ?_
  rintro T ⟨hT, hz0, x0_0, x0_1, x0_2, x0_3, x0_4, x0_5, x0_6, x0_7, x0_8, x0_9, x0_10, x0_11, x0_12, x0_13, hz1, x1_0, x1_1, x1_2, x1_3, x1_4, x1_5, x1_6, x1_7, x1_8, x1_9, x1_10, x1_11, x1_12, x1_13, hz2, x2_0, x2_1, x2_2, x2_3, x2_4, x2_5, x2_6, x2_7, x2_8, x2_9, x2_10, x2_11, x2_12, x2_13⟩
  generalize w.heap.size + 1 + 1 + (blocks n1).size + 1 + (blocks n2).size = A at *
  generalize w.heap.size + 1 = B at *
  generalize hD : w.heap.size = D at *
  go_loopw [10] (fun iv wr => ∃ (k : Nat) (kv : Int), k ≤ 5 ∧ kv = k ∧ iv = .int .i64 kv ∧ ∃ x, wr = plus T x) (fun iv _ => 5 - (intOf iv).toNat)
  case atStart => exact ⟨0, 0, by omega, rfl, rfl, (by with_reducible repeat (first | exact ex_refl _ | exact ex_more | apply ex_alloc | apply ex_plus | apply ex_drew | apply ex_drewN))⟩
  case round =>
    obtain ⟨k, kv, hk, hkv, rfl, x, rfl⟩ := hrel
    rcases (show k = 0 ∨ k = 1 ∨ k = 2 ∨ k = 3 ∨ k = 4 ∨ k = 5 by omega) with rfl | rfl | rfl | rfl | rfl | rfl
    · as_aux_lemma =>
        obtain rfl : kv = 0 := by omega
        clear hk hkv
        obtain ⟨⟨er, eg, eb, ea, et, ec, ei, el, en⟩, g0, g1, g2, g3, g4⟩ := hM.out
        clear hM
        clear et ec ei el en g1 g2 g3 g4
        by_cases h0 : s0 = 0
        · subst h0
          simp only [takes] at er eg eb ea g0
          simp at er eg eb ea g0
          subst er eg eb ea g0
          cases k0
          all_goals
            go_wp2
            refine region_plus (by kernel_rfl) (by kernel_rfl) ?_
            (repeat (go_big_quiet_step ((go_at_call 22; exact plus_of (thing0_calls _ _ _ _ _ _ _ _ _ (by first | exact hyb | exact hvb | exact hi) _)))))
            refine wpQuiet_nil ?_
            rintro _ ⟨x2, rfl⟩
            go_wp2
            go_roundw
            case rel => exact ⟨1, 1, by omega, rfl, by go_num, (by with_reducible repeat (first | exact ex_refl _ | exact ex_more | apply ex_alloc | apply ex_plus | apply ex_drew | apply ex_drewN))⟩
            case measure => simp [intOf]
        · have hp : 0 < s0 := by have := hB.s0.1; simp only at this; omega
          have hpd : decide (0 < s0) = true := decide_eq_true hp
          have hq : (s0 == 0) = false := by simp [h0]
          cases k0
          · rw [show takes s0 false = true by simp [takes, h0]] at er eg eb ea
            simp at er eg eb ea
            subst er eg eb ea
            go_wp2
            refine region_plus (by kernel_rfl) (by kernel_rfl) ?_
            (repeat (go_big_quiet_step ((go_at_call 22; exact plus_of (thing0_calls _ _ _ _ _ _ _ _ _ (by first | exact hyb | exact hvb | exact hi) _)))))
            refine wpQuiet_nil ?_
            rintro _ ⟨x2, rfl⟩
            go_wp2
            go_roundw
            case rel => exact ⟨1, 1, by omega, rfl, by go_num, (by with_reducible repeat (first | exact ex_refl _ | exact ex_more | apply ex_alloc | apply ex_plus | apply ex_drew | apply ex_drewN))⟩
            case measure => simp [intOf]
          · skip
            go_wp2
            refine region_plus (by kernel_rfl) (by kernel_rfl) ?_
            (repeat (go_big_quiet_step ((go_at_call 22; exact plus_of (thing0_calls _ _ _ _ _ _ _ _ _ (by first | exact hyb | exact hvb | exact hi) _)))))
            refine wpQuiet_nil ?_
            rintro _ ⟨x2, rfl⟩
            go_wp2
            go_roundw
            case rel => exact ⟨1, 1, by omega, rfl, by go_num, (by with_reducible repeat (first | exact ex_refl _ | exact ex_more | apply ex_alloc | apply ex_plus | apply ex_drew | apply ex_drewN))⟩
            case measure => simp [intOf]
    · as_aux_lemma =>
        obtain rfl : kv = 1 := by omega
        clear hk hkv
        obtain ⟨⟨er, eg, eb, ea, et, ec, ei, el, en⟩, g0, g1, g2, g3, g4⟩ := hM.out
        clear hM
        clear er eg eb ea ec ei el en g0 g2 g3 g4
        by_cases h0 : s1 = 0
        · subst h0
          simp only [takes] at et g1
          simp at et g1
          subst et g1
          cases k1
          all_goals
            go_wp2
            refine region_plus (by kernel_rfl) (by kernel_rfl) ?_
            (repeat (go_big_quiet_step ((go_at_call 22; exact plus_of (thing1_calls _ _ _ _ _ _ _ _ _ (by first | exact hyb | exact hvb | exact hi) _)))))
            refine wpQuiet_nil ?_
            rintro _ ⟨x2, rfl⟩
            go_wp2
            go_roundw
            case rel => exact ⟨2, 2, by omega, rfl, by go_num, (by with_reducible repeat (first | exact ex_refl _ | exact ex_more | apply ex_alloc | apply ex_plus | apply ex_drew | apply ex_drewN))⟩
            case measure => simp [intOf]
        · have hp : 0 < s1 := by have := hB.s1.1; simp only at this; omega
          have hpd : decide (0 < s1) = true := decide_eq_true hp
          have hq : (s1 == 0) = false := by simp [h0]
          cases k1
          · rw [show takes s1 false = true by simp [takes, h0]] at et
            simp at et
            subst et
            go_wp2
            refine region_plus (by kernel_rfl) (by kernel_rfl) ?_
            (repeat (go_big_quiet_step ((go_at_call 22; exact plus_of (thing1_calls _ _ _ _ _ _ _ _ _ (by first | exact hyb | exact hvb | exact hi) _)))))
            refine wpQuiet_nil ?_
            rintro _ ⟨x2, rfl⟩
            go_wp2
            go_roundw
            case rel => exact ⟨2, 2, by omega, rfl, by go_num, (by with_reducible repeat (first | exact ex_refl _ | exact ex_more | apply ex_alloc | apply ex_plus | apply ex_drew | apply ex_drewN))⟩
            case measure => simp [intOf]
          · skip
            go_wp2
            refine region_plus (by kernel_rfl) (by kernel_rfl) ?_
            (repeat (go_big_quiet_step ((go_at_call 22; exact plus_of (thing1_calls _ _ _ _ _ _ _ _ _ (by first | exact hyb | exact hvb | exact hi) _)))))
            refine wpQuiet_nil ?_
            rintro _ ⟨x2, rfl⟩
            go_wp2
            go_roundw
            case rel => exact ⟨2, 2, by omega, rfl, by go_num, (by with_reducible repeat (first | exact ex_refl _ | exact ex_more | apply ex_alloc | apply ex_plus | apply ex_drew | apply ex_drewN))⟩
            case measure => simp [intOf]
    · as_aux_lemma =>
        obtain rfl : kv = 2 := by omega
        clear hk hkv
        obtain ⟨⟨er, eg, eb, ea, et, ec, ei, el, en⟩, g0, g1, g2, g3, g4⟩ := hM.out
        clear hM
        clear er eg eb ea et ei el en g0 g1 g3 g4
        by_cases h0 : s2 = 0
        · subst h0
          simp only [takes] at ec g2
          simp at ec g2
          subst ec g2
          cases k2
          all_goals
            go_wp2
            refine region_plus (by kernel_rfl) (by kernel_rfl) ?_
            (repeat (go_big_quiet_step ((go_at_call 22; exact plus_of (thing2_calls _ _ _ _ _ _ _ _ _ (by first | exact hyb | exact hvb | exact hi) _)))))
            refine wpQuiet_nil ?_
            rintro _ ⟨x2, rfl⟩
            go_wp2
            go_roundw
            case rel => exact ⟨3, 3, by omega, rfl, by go_num, (by with_reducible repeat (first | exact ex_refl _ | exact ex_more | apply ex_alloc | apply ex_plus | apply ex_drew | apply ex_drewN))⟩
            case measure => simp [intOf]
        · have hp : 0 < s2 := by have := hB.s2.1; simp only at this; omega
          have hpd : decide (0 < s2) = true := decide_eq_true hp
          have hq : (s2 == 0) = false := by simp [h0]
          cases k2
          · rw [show takes s2 false = true by simp [takes, h0]] at ec
            simp at ec
            subst ec
            go_wp2
            refine region_plus (by kernel_rfl) (by kernel_rfl) ?_
            (repeat (go_big_quiet_step ((go_at_call 22; exact plus_of (thing2_calls _ _ _ _ _ _ _ _ _ (by first | exact hyb | exact hvb | exact hi) _)))))
            refine wpQuiet_nil ?_
            rintro _ ⟨x2, rfl⟩
            go_wp2
            go_roundw
            case rel => exact ⟨3, 3, by omega, rfl, by go_num, (by with_reducible repeat (first | exact ex_refl _ | exact ex_more | apply ex_alloc | apply ex_plus | apply ex_drew | apply ex_drewN))⟩
            case measure => simp [intOf]
          · skip
            go_wp2
            refine region_plus (by kernel_rfl) (by kernel_rfl) ?_
            (repeat (go_big_quiet_step ((go_at_call 22; exact plus_of (thing2_calls _ _ _ _ _ _ _ _ _ (by first | exact hyb | exact hvb | exact hi) _)))))
            refine wpQuiet_nil ?_
            rintro _ ⟨x2, rfl⟩
            go_wp2
            go_roundw
            case rel => exact ⟨3, 3, by omega, rfl, by go_num, (by with_reducible repeat (first | exact ex_refl _ | exact ex_more | apply ex_alloc | apply ex_plus | apply ex_drew | apply ex_drewN))⟩
            case measure => simp [intOf]
    · as_aux_lemma =>
        obtain rfl : kv = 3 := by omega
        clear hk hkv
        obtain ⟨⟨er, eg, eb, ea, et, ec, ei, el, en⟩, g0, g1, g2, g3, g4⟩ := hM.out
        clear hM
        clear er eg eb ea et ec el en g0 g1 g2 g4
        by_cases h0 : s3 = 0
        · subst h0
          simp only [takes] at ei g3
          simp at ei g3
          subst ei g3
          cases k3
          all_goals
            go_wp2
            refine region_plus (by kernel_rfl) (by kernel_rfl) ?_
            (repeat (go_big_quiet_step ((go_at_call 22; exact plus_of (thing3_calls _ _ _ _ _ _ _ _ _ (by first | exact hyb | exact hvb | exact hi) _)))))
            refine wpQuiet_nil ?_
            rintro _ ⟨x2, rfl⟩
            go_wp2
            go_roundw
            case rel => exact ⟨4, 4, by omega, rfl, by go_num, (by with_reducible repeat (first | exact ex_refl _ | exact ex_more | apply ex_alloc | apply ex_plus | apply ex_drew | apply ex_drewN))⟩
            case measure => simp [intOf]
        · have hp : 0 < s3 := by have := hB.s3.1; simp only at this; omega
          have hpd : decide (0 < s3) = true := decide_eq_true hp
          have hq : (s3 == 0) = false := by simp [h0]
          cases k3
          · rw [show takes s3 false = true by simp [takes, h0]] at ei
            simp at ei
            subst ei
            go_wp2
            refine region_plus (by kernel_rfl) (by kernel_rfl) ?_
            (repeat (go_big_quiet_step ((go_at_call 22; exact plus_of (thing3_calls _ _ _ _ _ _ _ _ _ (by first | exact hyb | exact hvb | exact hi) _)))))
            refine wpQuiet_nil ?_
            rintro _ ⟨x2, rfl⟩
            go_wp2
            go_roundw
            case rel => exact ⟨4, 4, by omega, rfl, by go_num, (by with_reducible repeat (first | exact ex_refl _ | exact ex_more | apply ex_alloc | apply ex_plus | apply ex_drew | apply ex_drewN))⟩
            case measure => simp [intOf]
          · skip
            go_wp2
            refine region_plus (by kernel_rfl) (by kernel_rfl) ?_
            (repeat (go_big_quiet_step ((go_at_call 22; exact plus_of (thing3_calls _ _ _ _ _ _ _ _ _ (by first | exact hyb | exact hvb | exact hi) _)))))
            refine wpQuiet_nil ?_
            rintro _ ⟨x2, rfl⟩
            go_wp2
            go_roundw
            case rel => exact ⟨4, 4, by omega, rfl, by go_num, (by with_reducible repeat (first | exact ex_refl _ | exact ex_more | apply ex_alloc | apply ex_plus | apply ex_drew | apply ex_drewN))⟩
            case measure => simp [intOf]
    · as_aux_lemma =>
        obtain rfl : kv = 4 := by omega
        clear hk hkv
        obtain ⟨⟨er, eg, eb, ea, et, ec, ei, el, en⟩, g0, g1, g2, g3, g4⟩ := hM.out
        clear hM
        clear er eg eb ea et ec ei g0 g1 g2 g3
        by_cases h0 : s4 = 0
        · subst h0
          simp only [takes] at el en g4
          simp at el en g4
          subst el en g4
          cases k4 <;> cases ul
          all_goals
            go_wp2
            refine region_plus (by kernel_rfl) (by kernel_rfl) ?_
            (repeat (go_big_quiet_step ((go_at_call 22; exact plus_of (thing4_calls _ _ _ _ _ _ _ _ _ (by first | exact hyb | exact hvb | exact hi) _)))))
            refine wpQuiet_nil ?_
            rintro _ ⟨x2, rfl⟩
            go_wp2
            go_roundw
            case rel => exact ⟨5, 5, by omega, rfl, by go_num, (by with_reducible repeat (first | exact ex_refl _ | exact ex_more | apply ex_alloc | apply ex_plus | apply ex_drew | apply ex_drewN))⟩
            case measure => simp [intOf]
        · have hp : 0 < s4 := by have := hB.s4.1; simp only at this; omega
          have hpd : decide (0 < s4) = true := decide_eq_true hp
          have hq : (s4 == 0) = false := by simp [h0]
          cases k4
          · rw [show takes s4 false = true by simp [takes, h0]] at el en
            simp at el en
            subst el en
            cases vl
            all_goals
              go_wp2
              refine region_plus (by kernel_rfl) (by kernel_rfl) ?_
              (repeat (go_big_quiet_step ((go_at_call 22; exact plus_of (thing4_calls _ _ _ _ _ _ _ _ _ (by first | exact hyb | exact hvb | exact hi) _)))))
              refine wpQuiet_nil ?_
              rintro _ ⟨x2, rfl⟩
              go_wp2
              go_roundw
              case rel => exact ⟨5, 5, by omega, rfl, by go_num, (by with_reducible repeat (first | exact ex_refl _ | exact ex_more | apply ex_alloc | apply ex_plus | apply ex_drew | apply ex_drewN))⟩
              case measure => simp [intOf]
          · skip
            go_wp2
            refine region_plus (by kernel_rfl) (by kernel_rfl) ?_
            (repeat (go_big_quiet_step ((go_at_call 22; exact plus_of (thing4_calls _ _ _ _ _ _ _ _ _ (by first | exact hyb | exact hvb | exact hi) _)))))
            refine wpQuiet_nil ?_
            rintro _ ⟨x2, rfl⟩
            go_wp2
            go_roundw
            case rel => exact ⟨5, 5, by omega, rfl, by go_num, (by with_reducible repeat (first | exact ex_refl _ | exact ex_more | apply ex_alloc | apply ex_plus | apply ex_drew | apply ex_drewN))⟩
            case measure => simp [intOf]
    · obtain rfl : kv = 5 := by omega
      clear hk hkv
      go_wp2
      go_ret
      subst hD
      exact ⟨rfl, st_below hT (by with_reducible repeat (first | exact ex_refl _ | exact ex_more | apply ex_alloc | apply ex_plus | apply ex_drew | apply ex_drewN))⟩

set_option maxRecDepth 100000 in
set_option maxHeartbeats 8000000 in
theorem statesQuiet_walk (i : Ih) (s : Sy) (w : World) (hi : LkB i.l) (hB : SyB s) :
    Calls Try.prog 7 #[.agg #[.int .u8 i.l.r, .int .u8 i.l.g, .int .u8 i.l.b, .int .u8 i.l.a, .int .i64 i.l.tx, .int .u8 i.l.cu, .int .i64 i.l.bi, .bool i.l.bl, .int .i64 i.l.bn, .bool i.k0, .bool i.k1, .bool i.k2, .bool i.k3, .bool i.k4], .agg #[.int .u8 s.s0, .int .u8 s.s1, .int .u8 s.s2, .int .u8 s.s3, .int .u8 s.s4, .int .u8 s.l.r, .int .u8 s.l.g, .int .u8 s.l.b, .int .u8 s.l.a, .int .i64 s.l.tx, .int .u8 s.l.cu, .int .i64 s.l.bi, .bool s.l.bl, .int .i64 s.l.bn]] w fun e w' => e = .returned (.bool true) ∧ Below w.heap.size w w' := by
  obtain ⟨⟨ur, ug, ub, ua, ut, uc, ui, ul, un⟩, k0, k1, k2, k3, k4⟩ := i
  obtain ⟨s0, s1, s2, s3, s4, ⟨vr, vg, vb, va, vt, vc, vi, vl, vn⟩⟩ := s
  simp only at hi
  cases hL : lookOk ⟨ur, ug, ub, ua, ut, uc, ui, ul, un⟩
  · exact statesQuiet_a ur ug ub ua ut uc ui ul un k0 k1 k2 k3 k4 s0 s1 s2 s3 s4 vr vg vb va vt vc vi vl vn w hi hB hL
  · cases hY : styOk ⟨s0, s1, s2, s3, s4, ⟨vr, vg, vb, va, vt, vc, vi, vl, vn⟩⟩
    · exact statesQuiet_b ur ug ub ua ut uc ui ul un k0 k1 k2 k3 k4 s0 s1 s2 s3 s4 vr vg vb va vt vc vi vl vn w hi hB hL hY
    · exact statesQuiet_c ur ug ub ua ut uc ui ul un k0 k1 k2 k3 k4 s0 s1 s2 s3 s4 vr vg vb va vt vc vi vl vn w hi hB hL hY

set_option maxRecDepth 100000 in
theorem statesQuiet_lifted (os : Os) (started : os.Started) (H : Type) (enc : TypeId × Value → H) :
    ReturnsInHanded {} Try.checked os 7 .any (Rows.statesQuietSpec.pre6 enc Try.prog Try.f7 Rows.statesQuietRow.domain false) (Rows.statesQuietSpec.post enc Try.prog Try.f7 false true false false) := by
  refine returnsInHanded_of_change (C := Try.checked) own started (by kernel_rfl) Try.func7
    (ChangeSpec.witness6 (enc := enc) (C := Try.checked) false ⟨#[], #[.agg #[.int .u8 0, .int .u8 0, .int .u8 0, .int .u8 0, .int .i64 0, .int .u8 0, .int .i64 0, .bool false, .int .i64 0, .bool false, .bool false, .bool false, .bool false, .bool false], .agg #[.int .u8 0, .int .u8 0, .int .u8 0, .int .u8 0, .int .u8 0, .int .u8 0, .int .u8 0, .int .u8 0, .int .u8 0, .int .i64 0, .int .u8 0, .int .i64 0, .bool false, .int .i64 0]], []⟩ 8 (by kernel_rfl) (by kernel_rfl) (by kernel_rfl) (by kernel_rfl)) ?_
  intro W base args ds gs before hval0 hW hcnd _
  have hval : ∀ (j : Nat) t v, Try.f7.params[j]? = some t → args[j]? = some v → Value.okWide Try.prog W .any base t v := hval0
  have hW' := hW
  obtain ⟨p, q, hA0, hV, rfl, hfz, hnd⟩ := hW
  have hA : DataW.TrodAll enc Try.prog W 0 (fun _ => true) true Try.f7.params.toList args.toList ds p := hA0
  rw [Try.params7] at hA hval
  obtain ⟨v0, vs0, d0, ds0, p0, q0, hargs, rfl, rfl, h0, r0⟩ := trodAll_cons hA
  obtain ⟨v1, vs1, d1, ds1, p1, q1, rfl, rfl, rfl, h1, r1⟩ := trodAll_cons r0
  obtain ⟨rfl, rfl, rfl⟩ := trodAll_nil r1
  obtain rfl : args = #[v0, v1] := by cases args; simp_all
  obtain ⟨s0, rfl, hs0⟩ := open_inherit (t := 39) (by kernel_rfl) (by kernel_rfl) (by kernel_rfl) (hval 0 39 v0 rfl rfl) h0
  obtain ⟨s1, rfl, hs1⟩ := open_style (t := 31) (by kernel_rfl) (by kernel_rfl) (by kernel_rfl) (hval 1 31 v1 rfl rfl) h1
  refine (statesQuiet_walk s0 s1  W hs0 hs1).mono fun e W' ⟨he, hb⟩ => ?_
  exact ⟨_, he, law_post laidOut Try.underlying4 rfl (by kernel_rfl) (by kernel_rfl) (fun ds h => match ds, h with | [_, _], _ => rfl) hW' hb⟩

theorem statesQuiet_holds : Rows.StatesQuietSaid :=
  OpenClaim.holds_of_wide 7 Try.f7 rfl rfl rfl rfl rfl rfl rfl ⟨rfl, rfl, rfl, rfl, rfl⟩ rfl rfl rfl rfl rfl (by kernel_rfl) Try.func7 (by kernel_rfl)
    (of_decide_eq_true (by kernel_rfl)) (by unfold Func.isWrapper; first | (rw [if_pos (by decide +kernel)]; kernel_rfl) | (rw [if_neg (by decide +kernel)]; exact ⟨rfl, rfl⟩))
    (fun os started H enc _ => statesQuiet_lifted os started H enc)
#print axioms statesQuiet_holds
end Go.Proofs.Ythcplebmffbmpaa
