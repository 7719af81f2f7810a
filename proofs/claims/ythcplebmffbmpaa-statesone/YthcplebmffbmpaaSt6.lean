/- What dioramaref07.May, Check and Begin give. -/
import Derived.Test.YthcplebmffbmpaaSt1
import Derived.Test.YthcplebmffbmpaaStEq
namespace Go.Proofs.Ythcplebmffbmpaa
open Go.RowKit Go.ChangeShapes Go.WideShapes Go.ChangeAt
set_option linter.unusedSimpArgs false
set_option linter.unusedVariables false
attribute [local go_sem] plus_size plus_drew dn_set dn_alloc dn_plus plus_dn cell_plus frozen_plus set_plus cell_alloc frozen_alloc set_alloc

attribute [local go_sem] eq4_refl eq5_refl

attribute [local go_sem] col_22

attribute [local go_sem] col_23

attribute [local go_sem] col9_22

attribute [local go_sem] col9_23

attribute [local go_sem] col8_22

attribute [local go_sem] col8_23

attribute [local go_sem] kep_37

attribute [local go_sem] kep9_37

attribute [local go_sem] kep8_37

attribute [local go_sem] larr_29

attribute [local go_sem] larr_53

theorem eqL_said (s : Sy) : eqL (said s) s.l = true ↔ (s.s0 = 0 → eq4 s.l.r s.l.g s.l.b s.l.a 0 0 0 0 = true) ∧ (s.s1 = 0 → s.l.tx = 0) ∧ (s.s2 = 0 → s.l.cu = 0) ∧ (s.s3 = 0 → s.l.bi = 0) ∧ (s.s4 = 0 → s.l.bl = false ∧ s.l.bn = 0) := by
  obtain ⟨s0, s1, s2, s3, s4, ⟨r, g, b, a, t, c, i, l, n⟩⟩ := s
  by_cases h0 : s0 = 0 <;> by_cases h1 : s1 = 0 <;> by_cases h2 : s2 = 0 <;> by_cases h3 : s3 = 0 <;> by_cases h4 : s4 = 0 <;> cases l <;>
    simp [said, saidTo, sd, t0, t1, t2, t3, t4, lk0, eqL, eqC, eq4, h0, h1, h2, h3, h4] <;> omega
structure PLift' (p : Prop) : Prop where
  out : p
theorem say_tmod {n : Int} (h : U8 n) : (¬ 0 < n ∧ ¬ 7 < n ∧ n.tmod 2 = 0 ∧ sayOk n = true) ∨ (0 < n ∧ ¬ 7 < n ∧ n.tmod 2 = 0 ∧ sayOk n = false) ∨ (7 < n ∧ sayOk n = false) ∨ (0 < n ∧ ¬ 7 < n ∧ n.tmod 2 = 1 ∧ sayOk n = true) := by
  have e : n.tmod 2 = n % 2 := Int.tmod_eq_emod_of_nonneg h.1
  rw [e]
  rcases say_or h with ⟨h1, h2⟩ | ⟨h1, h2, h3⟩ | ⟨h1, h2, h3, h4⟩ | ⟨h1, h2, h3, h4⟩
  · exact .inl ⟨by omega, by omega, by omega, h2⟩
  · obtain ⟨a, b⟩ := h
    by_cases h7 : 7 < n
    · exact .inr (.inr (.inl ⟨h7, h3⟩))
    · exact .inr (.inl ⟨by omega, h7, h2, h3⟩)
  · exact .inr (.inr (.inl ⟨h3, h4⟩))
  · obtain ⟨a, b⟩ := h
    exact .inr (.inr (.inr ⟨by omega, by omega, h2, h4⟩))

set_option maxRecDepth 100000 in
set_option maxHeartbeats 8000000 in
theorem rmay_calls (s0 s1 s2 s3 s4 : Int) (vr vg vb va vt vc vi : Int) (vl : Bool) (vn : Int) (hB : SyB ⟨s0, s1, s2, s3, s4, ⟨vr, vg, vb, va, vt, vc, vi, vl, vn⟩⟩) (w : World) :
    Calls Try.prog 29 #[.agg #[.int .u8 s0, .int .u8 s1, .int .u8 s2, .int .u8 s3, .int .u8 s4, .int .u8 vr, .int .u8 vg, .int .u8 vb, .int .u8 va, .int .i64 vt, .int .u8 vc, .int .i64 vi, .bool vl, .int .i64 vn]] w fun e w' => e = .returned (.bool (styOk ⟨s0, s1, s2, s3, s4, ⟨vr, vg, vb, va, vt, vc, vi, vl, vn⟩⟩)) ∧ Below w.heap.size w w' := by
  obtain ⟨b0, b1, b2, b3, b4, _⟩ := hB
  simp only at b0 b1 b2 b3 b4
  go_enter Try.func29, Try.ntmps29
  go_wp2
  go_loopw [3] (fun i wr => ∃ (k : Nat) (kv : Int), k ≤ 5 ∧ kv = k ∧ i = .int .i64 kv ∧ (0 < k → sayOk s0 = true) ∧ (1 < k → sayOk s1 = true) ∧ (2 < k → sayOk s2 = true) ∧ (3 < k → sayOk s3 = true) ∧ (4 < k → sayOk s4 = true) ∧ ∃ x, wr = plus (w.alloc (.cells #[.int .u8 s0, .int .u8 s1, .int .u8 s2, .int .u8 s3, .int .u8 s4, .int .u8 vr, .int .u8 vg, .int .u8 vb, .int .u8 va, .int .i64 vt, .int .u8 vc, .int .i64 vi, .bool vl, .int .i64 vn] 31)) x) (fun i _ => 5 - (intOf i).toNat)
  case atStart => exact ⟨0, 0, by omega, rfl, rfl, by omega, by omega, by omega, by omega, by omega, (by with_reducible repeat (first | exact ex_refl _ | exact ex_more | apply ex_alloc | apply ex_plus | apply ex_drew | apply ex_drewN))⟩
  case round =>
    obtain ⟨k, kv, hk, hkv, rfl, y0, y1, y2, y3, y4, x, rfl⟩ := hrel
    rcases (show k = 0 ∨ k = 1 ∨ k = 2 ∨ k = 3 ∨ k = 4 ∨ k = 5 by omega) with rfl | rfl | rfl | rfl | rfl | rfl
    · obtain rfl : kv = 0 := by omega
      clear hk hkv
      rcases say_tmod b0 with ⟨h1, h2, h3, hy⟩ | ⟨h1, h2, h3, hy⟩ | ⟨h1, hy⟩ | ⟨h1, h2, h3, hy⟩
      · go_wp2
        go_roundw
        case rel => exact ⟨1, 1, by omega, rfl, by go_num, (fun _ => hy), (fun h => absurd h (by decide)), (fun h => absurd h (by decide)), (fun h => absurd h (by decide)), (fun h => absurd h (by decide)), (by with_reducible repeat (first | exact ex_refl _ | exact ex_more | apply ex_alloc | apply ex_plus | apply ex_drew | apply ex_drewN))⟩
        case measure => simp [intOf]
      · go_wp2
        go_ret
        exact ⟨by rw [show styOk ⟨s0, s1, s2, s3, s4, ⟨vr, vg, vb, va, vt, vc, vi, vl, vn⟩⟩ = false by simp [styOk, saysOk, hy]]; rfl, by with_reducible repeat (first | exact Below.refl _ _ | apply ba | apply bp | apply bd | apply bn)⟩
      · go_wp2
        go_ret
        exact ⟨by rw [show styOk ⟨s0, s1, s2, s3, s4, ⟨vr, vg, vb, va, vt, vc, vi, vl, vn⟩⟩ = false by simp [styOk, saysOk, hy]]; rfl, by with_reducible repeat (first | exact Below.refl _ _ | apply ba | apply bp | apply bd | apply bn)⟩
      · go_wp2
        go_roundw
        case rel => exact ⟨1, 1, by omega, rfl, by go_num, (fun _ => hy), (fun h => absurd h (by decide)), (fun h => absurd h (by decide)), (fun h => absurd h (by decide)), (fun h => absurd h (by decide)), (by with_reducible repeat (first | exact ex_refl _ | exact ex_more | apply ex_alloc | apply ex_plus | apply ex_drew | apply ex_drewN))⟩
        case measure => simp [intOf]
    · obtain rfl : kv = 1 := by omega
      clear hk hkv
      rcases say_tmod b1 with ⟨h1, h2, h3, hy⟩ | ⟨h1, h2, h3, hy⟩ | ⟨h1, hy⟩ | ⟨h1, h2, h3, hy⟩
      · go_wp2
        go_roundw
        case rel => exact ⟨2, 2, by omega, rfl, by go_num, (fun _ => y0 (by decide)), (fun _ => hy), (fun h => absurd h (by decide)), (fun h => absurd h (by decide)), (fun h => absurd h (by decide)), (by with_reducible repeat (first | exact ex_refl _ | exact ex_more | apply ex_alloc | apply ex_plus | apply ex_drew | apply ex_drewN))⟩
        case measure => simp [intOf]
      · go_wp2
        go_ret
        exact ⟨by rw [show styOk ⟨s0, s1, s2, s3, s4, ⟨vr, vg, vb, va, vt, vc, vi, vl, vn⟩⟩ = false by simp [styOk, saysOk, hy]]; rfl, by with_reducible repeat (first | exact Below.refl _ _ | apply ba | apply bp | apply bd | apply bn)⟩
      · go_wp2
        go_ret
        exact ⟨by rw [show styOk ⟨s0, s1, s2, s3, s4, ⟨vr, vg, vb, va, vt, vc, vi, vl, vn⟩⟩ = false by simp [styOk, saysOk, hy]]; rfl, by with_reducible repeat (first | exact Below.refl _ _ | apply ba | apply bp | apply bd | apply bn)⟩
      · go_wp2
        go_roundw
        case rel => exact ⟨2, 2, by omega, rfl, by go_num, (fun _ => y0 (by decide)), (fun _ => hy), (fun h => absurd h (by decide)), (fun h => absurd h (by decide)), (fun h => absurd h (by decide)), (by with_reducible repeat (first | exact ex_refl _ | exact ex_more | apply ex_alloc | apply ex_plus | apply ex_drew | apply ex_drewN))⟩
        case measure => simp [intOf]
    · obtain rfl : kv = 2 := by omega
      clear hk hkv
      rcases say_tmod b2 with ⟨h1, h2, h3, hy⟩ | ⟨h1, h2, h3, hy⟩ | ⟨h1, hy⟩ | ⟨h1, h2, h3, hy⟩
      · go_wp2
        go_roundw
        case rel => exact ⟨3, 3, by omega, rfl, by go_num, (fun _ => y0 (by decide)), (fun _ => y1 (by decide)), (fun _ => hy), (fun h => absurd h (by decide)), (fun h => absurd h (by decide)), (by with_reducible repeat (first | exact ex_refl _ | exact ex_more | apply ex_alloc | apply ex_plus | apply ex_drew | apply ex_drewN))⟩
        case measure => simp [intOf]
      · go_wp2
        go_ret
        exact ⟨by rw [show styOk ⟨s0, s1, s2, s3, s4, ⟨vr, vg, vb, va, vt, vc, vi, vl, vn⟩⟩ = false by simp [styOk, saysOk, hy]]; rfl, by with_reducible repeat (first | exact Below.refl _ _ | apply ba | apply bp | apply bd | apply bn)⟩
      · go_wp2
        go_ret
        exact ⟨by rw [show styOk ⟨s0, s1, s2, s3, s4, ⟨vr, vg, vb, va, vt, vc, vi, vl, vn⟩⟩ = false by simp [styOk, saysOk, hy]]; rfl, by with_reducible repeat (first | exact Below.refl _ _ | apply ba | apply bp | apply bd | apply bn)⟩
      · go_wp2
        go_roundw
        case rel => exact ⟨3, 3, by omega, rfl, by go_num, (fun _ => y0 (by decide)), (fun _ => y1 (by decide)), (fun _ => hy), (fun h => absurd h (by decide)), (fun h => absurd h (by decide)), (by with_reducible repeat (first | exact ex_refl _ | exact ex_more | apply ex_alloc | apply ex_plus | apply ex_drew | apply ex_drewN))⟩
        case measure => simp [intOf]
    · obtain rfl : kv = 3 := by omega
      clear hk hkv
      rcases say_tmod b3 with ⟨h1, h2, h3, hy⟩ | ⟨h1, h2, h3, hy⟩ | ⟨h1, hy⟩ | ⟨h1, h2, h3, hy⟩
      · go_wp2
        go_roundw
        case rel => exact ⟨4, 4, by omega, rfl, by go_num, (fun _ => y0 (by decide)), (fun _ => y1 (by decide)), (fun _ => y2 (by decide)), (fun _ => hy), (fun h => absurd h (by decide)), (by with_reducible repeat (first | exact ex_refl _ | exact ex_more | apply ex_alloc | apply ex_plus | apply ex_drew | apply ex_drewN))⟩
        case measure => simp [intOf]
      · go_wp2
        go_ret
        exact ⟨by rw [show styOk ⟨s0, s1, s2, s3, s4, ⟨vr, vg, vb, va, vt, vc, vi, vl, vn⟩⟩ = false by simp [styOk, saysOk, hy]]; rfl, by with_reducible repeat (first | exact Below.refl _ _ | apply ba | apply bp | apply bd | apply bn)⟩
      · go_wp2
        go_ret
        exact ⟨by rw [show styOk ⟨s0, s1, s2, s3, s4, ⟨vr, vg, vb, va, vt, vc, vi, vl, vn⟩⟩ = false by simp [styOk, saysOk, hy]]; rfl, by with_reducible repeat (first | exact Below.refl _ _ | apply ba | apply bp | apply bd | apply bn)⟩
      · go_wp2
        go_roundw
        case rel => exact ⟨4, 4, by omega, rfl, by go_num, (fun _ => y0 (by decide)), (fun _ => y1 (by decide)), (fun _ => y2 (by decide)), (fun _ => hy), (fun h => absurd h (by decide)), (by with_reducible repeat (first | exact ex_refl _ | exact ex_more | apply ex_alloc | apply ex_plus | apply ex_drew | apply ex_drewN))⟩
        case measure => simp [intOf]
    · obtain rfl : kv = 4 := by omega
      clear hk hkv
      rcases say_tmod b4 with ⟨h1, h2, h3, hy⟩ | ⟨h1, h2, h3, hy⟩ | ⟨h1, hy⟩ | ⟨h1, h2, h3, hy⟩
      · go_wp2
        go_roundw
        case rel => exact ⟨5, 5, by omega, rfl, by go_num, (fun _ => y0 (by decide)), (fun _ => y1 (by decide)), (fun _ => y2 (by decide)), (fun _ => y3 (by decide)), (fun _ => hy), (by with_reducible repeat (first | exact ex_refl _ | exact ex_more | apply ex_alloc | apply ex_plus | apply ex_drew | apply ex_drewN))⟩
        case measure => simp [intOf]
      · go_wp2
        go_ret
        exact ⟨by rw [show styOk ⟨s0, s1, s2, s3, s4, ⟨vr, vg, vb, va, vt, vc, vi, vl, vn⟩⟩ = false by simp [styOk, saysOk, hy]]; rfl, by with_reducible repeat (first | exact Below.refl _ _ | apply ba | apply bp | apply bd | apply bn)⟩
      · go_wp2
        go_ret
        exact ⟨by rw [show styOk ⟨s0, s1, s2, s3, s4, ⟨vr, vg, vb, va, vt, vc, vi, vl, vn⟩⟩ = false by simp [styOk, saysOk, hy]]; rfl, by with_reducible repeat (first | exact Below.refl _ _ | apply ba | apply bp | apply bd | apply bn)⟩
      · go_wp2
        go_roundw
        case rel => exact ⟨5, 5, by omega, rfl, by go_num, (fun _ => y0 (by decide)), (fun _ => y1 (by decide)), (fun _ => y2 (by decide)), (fun _ => y3 (by decide)), (fun _ => hy), (by with_reducible repeat (first | exact ex_refl _ | exact ex_more | apply ex_alloc | apply ex_plus | apply ex_drew | apply ex_drewN))⟩
        case measure => simp [intOf]
    · obtain rfl : kv = 5 := by omega
      have h5 : saysOk ⟨s0, s1, s2, s3, s4, ⟨vr, vg, vb, va, vt, vc, vi, vl, vn⟩⟩ = true := saysOk_iff.2 ⟨y0 (by decide), y1 (by decide), y2 (by decide), y3 (by decide), y4 (by decide)⟩
      have hz := eqL_said ⟨s0, s1, s2, s3, s4, ⟨vr, vg, vb, va, vt, vc, vi, vl, vn⟩⟩
      simp only at hz
      have e5 : styOk ⟨s0, s1, s2, s3, s4, ⟨vr, vg, vb, va, vt, vc, vi, vl, vn⟩⟩ = (lookOk ⟨vr, vg, vb, va, vt, vc, vi, vl, vn⟩ && eqL (said ⟨s0, s1, s2, s3, s4, ⟨vr, vg, vb, va, vt, vc, vi, vl, vn⟩⟩) ⟨vr, vg, vb, va, vt, vc, vi, vl, vn⟩) := by rw [styOk, h5]; rfl
      obtain ⟨E, hE⟩ : ∃ E, eqL (said ⟨s0, s1, s2, s3, s4, ⟨vr, vg, vb, va, vt, vc, vi, vl, vn⟩⟩) ⟨vr, vg, vb, va, vt, vc, vi, vl, vn⟩ = E := ⟨_, rfl⟩
      rw [hE] at e5 hz
      clear hE h5 hk hkv b0 b1 b2 b3 b4 y0 y1 y2 y3 y4
      replace hz := (⟨hz⟩ : PLift' _)
      replace e5 := (⟨e5⟩ : PLift' _)
      go_wp2_with (go_at_call 28; refine (plus_post (mayLook_calls _ _ _ _ _ _ _ _ _ _)).mono ?_; rintro e w' ⟨rfl, nx, rfl⟩)
      all_goals
        try (have hn : ¬ vn = 0 := by have q : (vn != 0) = true := by assumption
                                      simpa using q)
        try (have hn : vn = 0 := by have q : (vn != 0) = false := by assumption
                                    simpa using q)
        subst_vars
        go_ret
        refine ⟨?_, by with_reducible repeat (first | exact Below.refl _ _ | apply ba | apply bp | apply bd | apply bn)⟩
        rw [e5.out]
        first
          | (rw [show E = true from hz.out.2 ⟨(by first | exact fun _ => rfl | exact fun _ => by assumption | exact fun h => absurd h (by assumption) | exact fun _ => ⟨rfl, rfl⟩ | exact fun _ => ⟨Bool.eq_false_iff.2 (by assumption), rfl⟩ | exact fun _ => ⟨by assumption, rfl⟩), (by first | exact fun _ => rfl | exact fun _ => by assumption | exact fun h => absurd h (by assumption) | exact fun _ => ⟨rfl, rfl⟩ | exact fun _ => ⟨Bool.eq_false_iff.2 (by assumption), rfl⟩ | exact fun _ => ⟨by assumption, rfl⟩), (by first | exact fun _ => rfl | exact fun _ => by assumption | exact fun h => absurd h (by assumption) | exact fun _ => ⟨rfl, rfl⟩ | exact fun _ => ⟨Bool.eq_false_iff.2 (by assumption), rfl⟩ | exact fun _ => ⟨by assumption, rfl⟩), (by first | exact fun _ => rfl | exact fun _ => by assumption | exact fun h => absurd h (by assumption) | exact fun _ => ⟨rfl, rfl⟩ | exact fun _ => ⟨Bool.eq_false_iff.2 (by assumption), rfl⟩ | exact fun _ => ⟨by assumption, rfl⟩), (by first | exact fun _ => rfl | exact fun _ => by assumption | exact fun h => absurd h (by assumption) | exact fun _ => ⟨rfl, rfl⟩ | exact fun _ => ⟨Bool.eq_false_iff.2 (by assumption), rfl⟩ | exact fun _ => ⟨by assumption, rfl⟩)⟩, Bool.and_true]; rfl)
          | (rw [show E = false from Bool.eq_false_iff.2 (fun h => by
              obtain ⟨z0, z1, z2, z3, z4⟩ := hz.out.1 h
              first
                | exact absurd (z0 rfl) (by assumption)
                | exact absurd (z0 rfl) (by rw [Bool.not_eq_true]; assumption)
                | exact absurd (z1 rfl) (by assumption)
                | exact absurd (z2 rfl) (by assumption)
                | exact absurd (z3 rfl) (by assumption)
                | exact absurd (z4 rfl).2 (by assumption)
                | exact absurd (z4 rfl).1 (by intro q; cases q)), Bool.and_false]; rfl)

end Go.Proofs.Ythcplebmffbmpaa
