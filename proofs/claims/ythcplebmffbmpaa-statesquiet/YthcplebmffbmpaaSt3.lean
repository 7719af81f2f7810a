/- What states.said and saysNothing give. -/
import Derived.Test.YthcplebmffbmpaaSt2
namespace Go.Proofs.Ythcplebmffbmpaa
open Go.RowKit Go.ChangeShapes Go.WideShapes Go.ChangeAt
set_option linter.unusedSimpArgs false
set_option linter.unusedVariables false
attribute [local go_sem] plus_size plus_drew dn_set dn_alloc dn_plus plus_dn cell_plus frozen_plus set_plus cell_alloc frozen_alloc set_alloc

@[local go_sem] theorem ixf_0 (a b c d e : Value) (w : World) : (Instr.index 59 (.agg #[a, b, c, d, e]) (.int .i64 0)).run Try.prog w = .ok a w := by kernel_rfl

@[local go_sem] theorem ixf_1 (a b c d e : Value) (w : World) : (Instr.index 59 (.agg #[a, b, c, d, e]) (.int .i64 1)).run Try.prog w = .ok b w := by kernel_rfl

@[local go_sem] theorem ixf_2 (a b c d e : Value) (w : World) : (Instr.index 59 (.agg #[a, b, c, d, e]) (.int .i64 2)).run Try.prog w = .ok c w := by kernel_rfl

@[local go_sem] theorem ixf_3 (a b c d e : Value) (w : World) : (Instr.index 59 (.agg #[a, b, c, d, e]) (.int .i64 3)).run Try.prog w = .ok d w := by kernel_rfl

@[local go_sem] theorem ixf_4 (a b c d e : Value) (w : World) : (Instr.index 59 (.agg #[a, b, c, d, e]) (.int .i64 4)).run Try.prog w = .ok e w := by kernel_rfl

set_option maxRecDepth 100000 in
set_option maxHeartbeats 4000000 in
theorem said_calls (s0 s1 s2 s3 s4 : Int) (vr vg vb va vt vc vi : Int) (vl : Bool) (vn : Int) (w : World) :
    Calls Try.prog 25 #[.agg #[.int .u8 s0, .int .u8 s1, .int .u8 s2, .int .u8 s3, .int .u8 s4, .int .u8 vr, .int .u8 vg, .int .u8 vb, .int .u8 va, .int .i64 vt, .int .u8 vc, .int .i64 vi, .bool vl, .int .i64 vn]] w fun e w' => e = .returned (.agg #[.int .u8 ((said ⟨s0, s1, s2, s3, s4, ⟨vr, vg, vb, va, vt, vc, vi, vl, vn⟩⟩)).r, .int .u8 ((said ⟨s0, s1, s2, s3, s4, ⟨vr, vg, vb, va, vt, vc, vi, vl, vn⟩⟩)).g, .int .u8 ((said ⟨s0, s1, s2, s3, s4, ⟨vr, vg, vb, va, vt, vc, vi, vl, vn⟩⟩)).b, .int .u8 ((said ⟨s0, s1, s2, s3, s4, ⟨vr, vg, vb, va, vt, vc, vi, vl, vn⟩⟩)).a, .int .i64 ((said ⟨s0, s1, s2, s3, s4, ⟨vr, vg, vb, va, vt, vc, vi, vl, vn⟩⟩)).tx, .int .u8 ((said ⟨s0, s1, s2, s3, s4, ⟨vr, vg, vb, va, vt, vc, vi, vl, vn⟩⟩)).cu, .int .i64 ((said ⟨s0, s1, s2, s3, s4, ⟨vr, vg, vb, va, vt, vc, vi, vl, vn⟩⟩)).bi, .bool ((said ⟨s0, s1, s2, s3, s4, ⟨vr, vg, vb, va, vt, vc, vi, vl, vn⟩⟩)).bl, .int .i64 ((said ⟨s0, s1, s2, s3, s4, ⟨vr, vg, vb, va, vt, vc, vi, vl, vn⟩⟩)).bn]) ∧ Below w.heap.size w w' := by
  obtain ⟨S, hS⟩ : ∃ S : Sy, S = ⟨s0, s1, s2, s3, s4, ⟨vr, vg, vb, va, vt, vc, vi, vl, vn⟩⟩ := ⟨_, rfl⟩
  rw [← hS]
  go_enter Try.func25, Try.ntmps25
  go_wp2_with (go_at_call 27; refine (plus_post (things_calls _)).mono ?_; rintro e w' ⟨rfl, nx, rfl⟩)
  go_loopw [7] (fun i wr => ∃ (k : Nat) (kv : Int), k ≤ 5 ∧ kv = k ∧ i = .int .i64 kv ∧ ∃ x, wr = plus (((w.alloc (.cells #[.int .u8 s0, .int .u8 s1, .int .u8 s2, .int .u8 s3, .int .u8 s4, .int .u8 vr, .int .u8 vg, .int .u8 vb, .int .u8 va, .int .i64 vt, .int .u8 vc, .int .i64 vi, .bool vl, .int .i64 vn] 31)).alloc (.cells #[.int .u8 0, .int .u8 0, .int .u8 0, .int .u8 0, .int .i64 0, .int .u8 0, .int .i64 0, .bool false, .int .i64 0] 25)).alloc (.cells #[.int .u8 ((saidTo S k)).r, .int .u8 ((saidTo S k)).g, .int .u8 ((saidTo S k)).b, .int .u8 ((saidTo S k)).a, .int .i64 ((saidTo S k)).tx, .int .u8 ((saidTo S k)).cu, .int .i64 ((saidTo S k)).bi, .bool ((saidTo S k)).bl, .int .i64 ((saidTo S k)).bn] 25)) x) (fun i _ => 5 - (intOf i).toNat)
  case atStart => exact ⟨0, 0, by omega, rfl, rfl, by simp only [saidTo, lk0]; exact (by with_reducible repeat (first | exact ex_refl _ | exact ex_more | apply ex_alloc | apply ex_plus | apply ex_drew | apply ex_drewN))⟩
  case round =>
    obtain ⟨k, kv, hk, hkv, rfl, x, rfl⟩ := hrel
    rcases (show k = 0 ∨ k = 1 ∨ k = 2 ∨ k = 3 ∨ k = 4 ∨ k = 5 by omega) with rfl | rfl | rfl | rfl | rfl | rfl
    · obtain rfl : kv = 0 := by omega
      obtain ⟨J, hJ⟩ : ∃ J, saidTo S 0 = J := ⟨_, rfl⟩
      rw [hJ]
      by_cases hs : s0 = 0
      · have e : saidTo S 1 = J := by
          show sd S (saidTo S 0) 0 = J
          rw [hJ, hS]
          simp [sd, t0, hs]
        clear hS hkv hk hJ
        subst hs
        go_wp2
        go_roundw
        case rel => exact ⟨1, 1, by omega, rfl, by go_num, by rw [e]; exact (by with_reducible repeat (first | exact ex_refl _ | exact ex_more | apply ex_alloc | apply ex_plus | apply ex_drew | apply ex_drewN))⟩
        case measure => simp [intOf]
      · have e : saidTo S 1 = ⟨vr, vg, vb, va, J.tx, J.cu, J.bi, J.bl, J.bn⟩ := by
          show sd S (saidTo S 0) 0 = _
          rw [hJ, hS]
          simp [sd, t0, hs]
        clear hS hkv hk hJ
        go_wp2_with (first | (go_at_call 31; refine (plus_post (withColor_calls _ _ _ _ _ _ _ _ _ _ _ _ _ _ _ _ _ _ _)).mono ?_; rintro e w' ⟨rfl, nx, rfl⟩) | (go_at_call 32; refine (plus_post (withTexture_calls _ _ _ _ _ _ _ _ _ _ _ _ _ _ _ _ _ _ _)).mono ?_; rintro e w' ⟨rfl, nx, rfl⟩) | (go_at_call 33; refine (plus_post (withCull_calls _ _ _ _ _ _ _ _ _ _ _ _ _ _ _ _ _ _ _)).mono ?_; rintro e w' ⟨rfl, nx, rfl⟩) | (go_at_call 34; refine (plus_post (withBias_calls _ _ _ _ _ _ _ _ _ _ _ _ _ _ _ _ _ _ _)).mono ?_; rintro e w' ⟨rfl, nx, rfl⟩) | (go_at_call 35; refine (plus_post (withBlend_calls _ _ _ _ _ _ _ _ _ _ _ _ _ _ _ _ _ _ _)).mono ?_; rintro e w' ⟨rfl, nx, rfl⟩))
        go_roundw
        case rel => exact ⟨1, 1, by omega, rfl, by go_num, by simp only [e]; exact (by with_reducible repeat (first | exact ex_refl _ | exact ex_more | apply ex_alloc | apply ex_plus | apply ex_drew | apply ex_drewN))⟩
        case measure => simp [intOf]
    · obtain rfl : kv = 1 := by omega
      obtain ⟨J, hJ⟩ : ∃ J, saidTo S 1 = J := ⟨_, rfl⟩
      rw [hJ]
      by_cases hs : s1 = 0
      · have e : saidTo S 2 = J := by
          show sd S (saidTo S 1) 1 = J
          rw [hJ, hS]
          simp [sd, t1, hs]
        clear hS hkv hk hJ
        subst hs
        go_wp2
        go_roundw
        case rel => exact ⟨2, 2, by omega, rfl, by go_num, by rw [e]; exact (by with_reducible repeat (first | exact ex_refl _ | exact ex_more | apply ex_alloc | apply ex_plus | apply ex_drew | apply ex_drewN))⟩
        case measure => simp [intOf]
      · have e : saidTo S 2 = ⟨J.r, J.g, J.b, J.a, vt, J.cu, J.bi, J.bl, J.bn⟩ := by
          show sd S (saidTo S 1) 1 = _
          rw [hJ, hS]
          simp [sd, t1, hs]
        clear hS hkv hk hJ
        go_wp2_with (first | (go_at_call 31; refine (plus_post (withColor_calls _ _ _ _ _ _ _ _ _ _ _ _ _ _ _ _ _ _ _)).mono ?_; rintro e w' ⟨rfl, nx, rfl⟩) | (go_at_call 32; refine (plus_post (withTexture_calls _ _ _ _ _ _ _ _ _ _ _ _ _ _ _ _ _ _ _)).mono ?_; rintro e w' ⟨rfl, nx, rfl⟩) | (go_at_call 33; refine (plus_post (withCull_calls _ _ _ _ _ _ _ _ _ _ _ _ _ _ _ _ _ _ _)).mono ?_; rintro e w' ⟨rfl, nx, rfl⟩) | (go_at_call 34; refine (plus_post (withBias_calls _ _ _ _ _ _ _ _ _ _ _ _ _ _ _ _ _ _ _)).mono ?_; rintro e w' ⟨rfl, nx, rfl⟩) | (go_at_call 35; refine (plus_post (withBlend_calls _ _ _ _ _ _ _ _ _ _ _ _ _ _ _ _ _ _ _)).mono ?_; rintro e w' ⟨rfl, nx, rfl⟩))
        go_roundw
        case rel => exact ⟨2, 2, by omega, rfl, by go_num, by simp only [e]; exact (by with_reducible repeat (first | exact ex_refl _ | exact ex_more | apply ex_alloc | apply ex_plus | apply ex_drew | apply ex_drewN))⟩
        case measure => simp [intOf]
    · obtain rfl : kv = 2 := by omega
      obtain ⟨J, hJ⟩ : ∃ J, saidTo S 2 = J := ⟨_, rfl⟩
      rw [hJ]
      by_cases hs : s2 = 0
      · have e : saidTo S 3 = J := by
          show sd S (saidTo S 2) 2 = J
          rw [hJ, hS]
          simp [sd, t2, hs]
        clear hS hkv hk hJ
        subst hs
        go_wp2
        go_roundw
        case rel => exact ⟨3, 3, by omega, rfl, by go_num, by rw [e]; exact (by with_reducible repeat (first | exact ex_refl _ | exact ex_more | apply ex_alloc | apply ex_plus | apply ex_drew | apply ex_drewN))⟩
        case measure => simp [intOf]
      · have e : saidTo S 3 = ⟨J.r, J.g, J.b, J.a, J.tx, vc, J.bi, J.bl, J.bn⟩ := by
          show sd S (saidTo S 2) 2 = _
          rw [hJ, hS]
          simp [sd, t2, hs]
        clear hS hkv hk hJ
        go_wp2_with (first | (go_at_call 31; refine (plus_post (withColor_calls _ _ _ _ _ _ _ _ _ _ _ _ _ _ _ _ _ _ _)).mono ?_; rintro e w' ⟨rfl, nx, rfl⟩) | (go_at_call 32; refine (plus_post (withTexture_calls _ _ _ _ _ _ _ _ _ _ _ _ _ _ _ _ _ _ _)).mono ?_; rintro e w' ⟨rfl, nx, rfl⟩) | (go_at_call 33; refine (plus_post (withCull_calls _ _ _ _ _ _ _ _ _ _ _ _ _ _ _ _ _ _ _)).mono ?_; rintro e w' ⟨rfl, nx, rfl⟩) | (go_at_call 34; refine (plus_post (withBias_calls _ _ _ _ _ _ _ _ _ _ _ _ _ _ _ _ _ _ _)).mono ?_; rintro e w' ⟨rfl, nx, rfl⟩) | (go_at_call 35; refine (plus_post (withBlend_calls _ _ _ _ _ _ _ _ _ _ _ _ _ _ _ _ _ _ _)).mono ?_; rintro e w' ⟨rfl, nx, rfl⟩))
        go_roundw
        case rel => exact ⟨3, 3, by omega, rfl, by go_num, by simp only [e]; exact (by with_reducible repeat (first | exact ex_refl _ | exact ex_more | apply ex_alloc | apply ex_plus | apply ex_drew | apply ex_drewN))⟩
        case measure => simp [intOf]
    · obtain rfl : kv = 3 := by omega
      obtain ⟨J, hJ⟩ : ∃ J, saidTo S 3 = J := ⟨_, rfl⟩
      rw [hJ]
      by_cases hs : s3 = 0
      · have e : saidTo S 4 = J := by
          show sd S (saidTo S 3) 3 = J
          rw [hJ, hS]
          simp [sd, t3, hs]
        clear hS hkv hk hJ
        subst hs
        go_wp2
        go_roundw
        case rel => exact ⟨4, 4, by omega, rfl, by go_num, by rw [e]; exact (by with_reducible repeat (first | exact ex_refl _ | exact ex_more | apply ex_alloc | apply ex_plus | apply ex_drew | apply ex_drewN))⟩
        case measure => simp [intOf]
      · have e : saidTo S 4 = ⟨J.r, J.g, J.b, J.a, J.tx, J.cu, vi, J.bl, J.bn⟩ := by
          show sd S (saidTo S 3) 3 = _
          rw [hJ, hS]
          simp [sd, t3, hs]
        clear hS hkv hk hJ
        go_wp2_with (first | (go_at_call 31; refine (plus_post (withColor_calls _ _ _ _ _ _ _ _ _ _ _ _ _ _ _ _ _ _ _)).mono ?_; rintro e w' ⟨rfl, nx, rfl⟩) | (go_at_call 32; refine (plus_post (withTexture_calls _ _ _ _ _ _ _ _ _ _ _ _ _ _ _ _ _ _ _)).mono ?_; rintro e w' ⟨rfl, nx, rfl⟩) | (go_at_call 33; refine (plus_post (withCull_calls _ _ _ _ _ _ _ _ _ _ _ _ _ _ _ _ _ _ _)).mono ?_; rintro e w' ⟨rfl, nx, rfl⟩) | (go_at_call 34; refine (plus_post (withBias_calls _ _ _ _ _ _ _ _ _ _ _ _ _ _ _ _ _ _ _)).mono ?_; rintro e w' ⟨rfl, nx, rfl⟩) | (go_at_call 35; refine (plus_post (withBlend_calls _ _ _ _ _ _ _ _ _ _ _ _ _ _ _ _ _ _ _)).mono ?_; rintro e w' ⟨rfl, nx, rfl⟩))
        go_roundw
        case rel => exact ⟨4, 4, by omega, rfl, by go_num, by simp only [e]; exact (by with_reducible repeat (first | exact ex_refl _ | exact ex_more | apply ex_alloc | apply ex_plus | apply ex_drew | apply ex_drewN))⟩
        case measure => simp [intOf]
    · obtain rfl : kv = 4 := by omega
      obtain ⟨J, hJ⟩ : ∃ J, saidTo S 4 = J := ⟨_, rfl⟩
      rw [hJ]
      by_cases hs : s4 = 0
      · have e : saidTo S 5 = J := by
          show sd S (saidTo S 4) 4 = J
          rw [hJ, hS]
          simp [sd, t4, hs]
        clear hS hkv hk hJ
        subst hs
        go_wp2
        go_roundw
        case rel => exact ⟨5, 5, by omega, rfl, by go_num, by rw [e]; exact (by with_reducible repeat (first | exact ex_refl _ | exact ex_more | apply ex_alloc | apply ex_plus | apply ex_drew | apply ex_drewN))⟩
        case measure => simp [intOf]
      · have e : saidTo S 5 = ⟨J.r, J.g, J.b, J.a, J.tx, J.cu, J.bi, vl, vn⟩ := by
          show sd S (saidTo S 4) 4 = _
          rw [hJ, hS]
          simp [sd, t4, hs]
        clear hS hkv hk hJ
        go_wp2_with (first | (go_at_call 31; refine (plus_post (withColor_calls _ _ _ _ _ _ _ _ _ _ _ _ _ _ _ _ _ _ _)).mono ?_; rintro e w' ⟨rfl, nx, rfl⟩) | (go_at_call 32; refine (plus_post (withTexture_calls _ _ _ _ _ _ _ _ _ _ _ _ _ _ _ _ _ _ _)).mono ?_; rintro e w' ⟨rfl, nx, rfl⟩) | (go_at_call 33; refine (plus_post (withCull_calls _ _ _ _ _ _ _ _ _ _ _ _ _ _ _ _ _ _ _)).mono ?_; rintro e w' ⟨rfl, nx, rfl⟩) | (go_at_call 34; refine (plus_post (withBias_calls _ _ _ _ _ _ _ _ _ _ _ _ _ _ _ _ _ _ _)).mono ?_; rintro e w' ⟨rfl, nx, rfl⟩) | (go_at_call 35; refine (plus_post (withBlend_calls _ _ _ _ _ _ _ _ _ _ _ _ _ _ _ _ _ _ _)).mono ?_; rintro e w' ⟨rfl, nx, rfl⟩))
        go_roundw
        case rel => exact ⟨5, 5, by omega, rfl, by go_num, by simp only [e]; exact (by with_reducible repeat (first | exact ex_refl _ | exact ex_more | apply ex_alloc | apply ex_plus | apply ex_drew | apply ex_drewN))⟩
        case measure => simp [intOf]
    · obtain rfl : kv = 5 := by omega
      clear hS hkv hk
      rw [show saidTo S 5 = said S from rfl]
      go_wp2
      exact bodyPost_ret (v := .agg #[.int .u8 ((said S)).r, .int .u8 ((said S)).g, .int .u8 ((said S)).b, .int .u8 ((said S)).a, .int .i64 ((said S)).tx, .int .u8 ((said S)).cu, .int .i64 ((said S)).bi, .bool ((said S)).bl, .int .i64 ((said S)).bn]) (by simp [results, Try.results25, go_sem, ↓IntWalk.iteOmega]) rfl ⟨by rfl, by with_reducible repeat (first | exact Below.refl _ _ | apply ba | apply bp | apply bd | apply bn)⟩

end Go.Proofs.Ythcplebmffbmpaa
