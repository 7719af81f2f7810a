/- What states.saysNothing, Begin and Check give. -/
import Derived.Test.YthcplebmffbmpaaSt3
import Derived.Test.YthcplebmffbmpaaStEq
namespace Go.Proofs.Ythcplebmffbmpaa
open Go.RowKit Go.ChangeShapes Go.WideShapes Go.ChangeAt
set_option linter.unusedSimpArgs false
set_option linter.unusedVariables false
attribute [local go_sem] plus_size plus_drew dn_set dn_alloc dn_plus plus_dn cell_plus frozen_plus set_plus cell_alloc frozen_alloc set_alloc

attribute [local go_sem] eq4_refl eq5_refl

attribute [local go_sem] col_22

attribute [local go_sem] col_23

attribute [local go_sem] col9_22

attribute [local go_sem] col9_23

attribute [local go_sem] col8_22

attribute [local go_sem] col8_23

attribute [local go_sem] kep_37

attribute [local go_sem] kep9_37

attribute [local go_sem] kep8_37

attribute [local go_sem] larr_29

attribute [local go_sem] larr_53

@[local go_sem] theorem ixs_0 (a b c d e : Value) (w : World) : (Instr.index 29 (.agg #[a, b, c, d, e]) (.int .i64 0)).run Try.prog w = .ok a w := by kernel_rfl

@[local go_sem] theorem ixs_1 (a b c d e : Value) (w : World) : (Instr.index 29 (.agg #[a, b, c, d, e]) (.int .i64 1)).run Try.prog w = .ok b w := by kernel_rfl

@[local go_sem] theorem ixs_2 (a b c d e : Value) (w : World) : (Instr.index 29 (.agg #[a, b, c, d, e]) (.int .i64 2)).run Try.prog w = .ok c w := by kernel_rfl

@[local go_sem] theorem ixs_3 (a b c d e : Value) (w : World) : (Instr.index 29 (.agg #[a, b, c, d, e]) (.int .i64 3)).run Try.prog w = .ok d w := by kernel_rfl

@[local go_sem] theorem ixs_4 (a b c d e : Value) (w : World) : (Instr.index 29 (.agg #[a, b, c, d, e]) (.int .i64 4)).run Try.prog w = .ok e w := by kernel_rfl

theorem noSay_calls (s0 s1 s2 s3 s4 : Int) (vr vg vb va vt vc vi : Int) (vl : Bool) (vn : Int) (w : World) :
    Calls Try.prog 26 #[.agg #[.int .u8 s0, .int .u8 s1, .int .u8 s2, .int .u8 s3, .int .u8 s4, .int .u8 vr, .int .u8 vg, .int .u8 vb, .int .u8 va, .int .i64 vt, .int .u8 vc, .int .i64 vi, .bool vl, .int .i64 vn]] w fun e w' => e = .returned (.bool (noSay ⟨s0, s1, s2, s3, s4, ⟨vr, vg, vb, va, vt, vc, vi, vl, vn⟩⟩)) ∧ Below w.heap.size w w' := by
  go_enter Try.func26, Try.ntmps26
  go_wp2
  go_ret
  exact ⟨rfl, by with_reducible repeat (first | exact Below.refl _ _ | apply ba | apply bp | apply bd | apply bn)⟩

theorem begin_calls  (w : World) :
    Calls Try.prog 18 #[] w fun e w' => e = .returned (.agg #[.int .u8 ihW.l.r, .int .u8 ihW.l.g, .int .u8 ihW.l.b, .int .u8 ihW.l.a, .int .i64 ihW.l.tx, .int .u8 ihW.l.cu, .int .i64 ihW.l.bi, .bool ihW.l.bl, .int .i64 ihW.l.bn, .bool ihW.k0, .bool ihW.k1, .bool ihW.k2, .bool ihW.k3, .bool ihW.k4]) ∧ Below w.heap.size w w' := by
  go_enter Try.func18, Try.ntmps18
  go_wp2
  exact bodyPost_ret (v := .agg #[.int .u8 ihW.l.r, .int .u8 ihW.l.g, .int .u8 ihW.l.b, .int .u8 ihW.l.a, .int .i64 ihW.l.tx, .int .u8 ihW.l.cu, .int .i64 ihW.l.bi, .bool ihW.l.bl, .int .i64 ihW.l.bn, .bool ihW.k0, .bool ihW.k1, .bool ihW.k2, .bool ihW.k3, .bool ihW.k4]) (by simp [ihW, lkW, results, Try.results18, go_sem, ↓IntWalk.iteOmega]) rfl ⟨rfl, by with_reducible repeat (first | exact Below.refl _ _ | apply ba | apply bp | apply bd | apply bn)⟩

set_option maxHeartbeats 4000000 in
theorem sty_calls (s0 s1 s2 s3 s4 : Int) (vr vg vb va vt vc vi : Int) (vl : Bool) (vn : Int) (hB : SyB ⟨s0, s1, s2, s3, s4, ⟨vr, vg, vb, va, vt, vc, vi, vl, vn⟩⟩) (w : World) :
    Calls Try.prog 12 #[.agg #[.int .u8 s0, .int .u8 s1, .int .u8 s2, .int .u8 s3, .int .u8 s4, .int .u8 vr, .int .u8 vg, .int .u8 vb, .int .u8 va, .int .i64 vt, .int .u8 vc, .int .i64 vi, .bool vl, .int .i64 vn]] w fun e w' => e = .returned (.int .i64 (styErr ⟨s0, s1, s2, s3, s4, ⟨vr, vg, vb, va, vt, vc, vi, vl, vn⟩⟩)) ∧ Below w.heap.size w w' := by
  obtain ⟨b0, b1, b2, b3, b4, _⟩ := hB
  simp only at b0 b1 b2 b3 b4
  cases r0 : sayOk s0
  · rw [show styErr ⟨s0, s1, s2, s3, s4, ⟨vr, vg, vb, va, vt, vc, vi, vl, vn⟩⟩ = 8 by simp [styErr, styOk, saysOk, r0]]
    go_enter Try.func12, Try.ntmps12
    go_wp2
    refine wp_loop_rounds 6 ?_
    repeat any_goals (rw [rounds_succ]; go_wp2_with (go_at_call 24; refine (plus_post (say_calls _ (by assumption) _)).mono ?_; rintro e w' ⟨rfl, nx, rfl⟩))
    go_ret
    exact ⟨rfl, by with_reducible repeat (first | exact Below.refl _ _ | apply ba | apply bp | apply bd | apply bn)⟩
  cases r1 : sayOk s1
  · rw [show styErr ⟨s0, s1, s2, s3, s4, ⟨vr, vg, vb, va, vt, vc, vi, vl, vn⟩⟩ = 8 by simp [styErr, styOk, saysOk, r1]]
    go_enter Try.func12, Try.ntmps12
    go_wp2
    refine wp_loop_rounds 6 ?_
    repeat any_goals (rw [rounds_succ]; go_wp2_with (go_at_call 24; refine (plus_post (say_calls _ (by assumption) _)).mono ?_; rintro e w' ⟨rfl, nx, rfl⟩))
    go_ret
    exact ⟨rfl, by with_reducible repeat (first | exact Below.refl _ _ | apply ba | apply bp | apply bd | apply bn)⟩
  cases r2 : sayOk s2
  · rw [show styErr ⟨s0, s1, s2, s3, s4, ⟨vr, vg, vb, va, vt, vc, vi, vl, vn⟩⟩ = 8 by simp [styErr, styOk, saysOk, r2]]
    go_enter Try.func12, Try.ntmps12
    go_wp2
    refine wp_loop_rounds 6 ?_
    repeat any_goals (rw [rounds_succ]; go_wp2_with (go_at_call 24; refine (plus_post (say_calls _ (by assumption) _)).mono ?_; rintro e w' ⟨rfl, nx, rfl⟩))
    go_ret
    exact ⟨rfl, by with_reducible repeat (first | exact Below.refl _ _ | apply ba | apply bp | apply bd | apply bn)⟩
  cases r3 : sayOk s3
  · rw [show styErr ⟨s0, s1, s2, s3, s4, ⟨vr, vg, vb, va, vt, vc, vi, vl, vn⟩⟩ = 8 by simp [styErr, styOk, saysOk, r3]]
    go_enter Try.func12, Try.ntmps12
    go_wp2
    refine wp_loop_rounds 6 ?_
    repeat any_goals (rw [rounds_succ]; go_wp2_with (go_at_call 24; refine (plus_post (say_calls _ (by assumption) _)).mono ?_; rintro e w' ⟨rfl, nx, rfl⟩))
    go_ret
    exact ⟨rfl, by with_reducible repeat (first | exact Below.refl _ _ | apply ba | apply bp | apply bd | apply bn)⟩
  cases r4 : sayOk s4
  · rw [show styErr ⟨s0, s1, s2, s3, s4, ⟨vr, vg, vb, va, vt, vc, vi, vl, vn⟩⟩ = 8 by simp [styErr, styOk, saysOk, r4]]
    go_enter Try.func12, Try.ntmps12
    go_wp2
    refine wp_loop_rounds 6 ?_
    repeat any_goals (rw [rounds_succ]; go_wp2_with (go_at_call 24; refine (plus_post (say_calls _ (by assumption) _)).mono ?_; rintro e w' ⟨rfl, nx, rfl⟩))
    go_ret
    exact ⟨rfl, by with_reducible repeat (first | exact Below.refl _ _ | apply ba | apply bp | apply bd | apply bn)⟩
  cases hL : lookOk ⟨vr, vg, vb, va, vt, vc, vi, vl, vn⟩
  · have e1 : lookErr ⟨vr, vg, vb, va, vt, vc, vi, vl, vn⟩ = 8 := by rw [lookErr, hL]; rfl
    rw [show styErr ⟨s0, s1, s2, s3, s4, ⟨vr, vg, vb, va, vt, vc, vi, vl, vn⟩⟩ = 8 by simp [styErr, styOk, hL]]
    clear hL
    go_enter Try.func12, Try.ntmps12
    go_wp2
    refine wp_loop_rounds 6 ?_
    repeat any_goals (rw [rounds_succ]; go_wp2_with (go_at_call 24; refine (plus_post (say_calls _ (by assumption) _)).mono ?_; rintro e w' ⟨rfl, nx, rfl⟩))
    refine region_plus (by kernel_rfl) (by kernel_rfl) ?_
    (repeat (go_big_quiet_step ((first | (go_at_call 13; exact plus_of (look_calls _ _ _ _ _ _ _ _ _ _)) | (go_at_call 25; exact plus_of (said_calls _ _ _ _ _ _ _ _ _ _ _ _ _ _ _))))))
    refine wpQuiet_nil ?_
    rintro _ ⟨x2, rfl⟩
    go_wp2
    go_ret
    exact ⟨rfl, by with_reducible repeat (first | exact Below.refl _ _ | apply ba | apply bp | apply bd | apply bn)⟩
  have e1 : lookErr ⟨vr, vg, vb, va, vt, vc, vi, vl, vn⟩ = 0 := by rw [lookErr, hL]; rfl
  obtain ⟨J, hJ⟩ : ∃ J, said ⟨s0, s1, s2, s3, s4, ⟨vr, vg, vb, va, vt, vc, vi, vl, vn⟩⟩ = J := ⟨_, rfl⟩
  have e3 : styErr ⟨s0, s1, s2, s3, s4, ⟨vr, vg, vb, va, vt, vc, vi, vl, vn⟩⟩ = if eqL J ⟨vr, vg, vb, va, vt, vc, vi, vl, vn⟩ then 0 else 8 := by simp [styErr, styOk, saysOk, r0, r1, r2, r3, r4, hL, hJ]
  rw [e3]
  clear e3 hL
  cases hq : eqL J ⟨vr, vg, vb, va, vt, vc, vi, vl, vn⟩
  · rcases eqL_no hq with h1 | ⟨h1, h2 | ⟨h2, h3 | ⟨h3, h4 | ⟨h4, h5 | ⟨h5, h6⟩⟩⟩⟩⟩
    all_goals
      clear hq
      simp only at h1
      try simp only at h2
      try simp only at h3
      try simp only at h4
      try simp only at h5
      try simp only at h6
      go_enter Try.func12, Try.ntmps12
      go_wp2
      refine wp_loop_rounds 6 ?_
      repeat any_goals (rw [rounds_succ]; go_wp2_with (go_at_call 24; refine (plus_post (say_calls _ (by assumption) _)).mono ?_; rintro e w' ⟨rfl, nx, rfl⟩))
      refine region_plus (by kernel_rfl) (by kernel_rfl) ?_
      (repeat (go_big_quiet_step ((first | (go_at_call 13; exact plus_of (look_calls _ _ _ _ _ _ _ _ _ _)) | (go_at_call 25; exact plus_of (said_calls _ _ _ _ _ _ _ _ _ _ _ _ _ _ _))))))
      refine wpQuiet_nil ?_
      rintro _ ⟨x2, rfl⟩
      go_wp2
      go_ret
      exact ⟨rfl, by with_reducible repeat (first | exact Below.refl _ _ | apply ba | apply bp | apply bd | apply bn)⟩
  · obtain rfl := eqL_iff.1 hq
    clear hq
    go_enter Try.func12, Try.ntmps12
    go_wp2
    refine wp_loop_rounds 6 ?_
    repeat any_goals (rw [rounds_succ]; go_wp2_with (go_at_call 24; refine (plus_post (say_calls _ (by assumption) _)).mono ?_; rintro e w' ⟨rfl, nx, rfl⟩))
    refine region_plus (by kernel_rfl) (by kernel_rfl) ?_
    (repeat (go_big_quiet_step ((first | (go_at_call 13; exact plus_of (look_calls _ _ _ _ _ _ _ _ _ _)) | (go_at_call 25; exact plus_of (said_calls _ _ _ _ _ _ _ _ _ _ _ _ _ _ _))))))
    refine wpQuiet_nil ?_
    rintro _ ⟨x2, rfl⟩
    go_wp2
    go_ret
    exact ⟨rfl, by with_reducible repeat (first | exact Below.refl _ _ | apply ba | apply bp | apply bd | apply bn)⟩

end Go.Proofs.Ythcplebmffbmpaa
