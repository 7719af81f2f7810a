/- A pack of texts: St2, St3, St4, EdLk, EdLc. -/
import Derived.Laws.EntriesVeiled
import Derived.Test.YtcekcihijdipoaaGreatPN6
import Derived.Test.YtcekcihijdipoaaGreatPN4
import Derived.Test.YtcekcihijdipoaaGreatPN11
import Derived.Test.YtcekcihijdipoaaGreatPN7
namespace Go.Proofs.YtcekcihijdipoaaGreat

section


open Go.RowKit Go.ChangeShapes Go.WideShapes Go.ChangeAt

set_option linter.unusedSimpArgs false

set_option linter.unusedVariables false

attribute [local go_sem] plus_size plus_drew dn_set dn_alloc dn_plus plus_dn cell_plus frozen_plus set_plus cell_alloc frozen_alloc set_alloc

theorem things_calls (w : World) :
    Calls Tryz.prog 175 #[] w fun e w' => e = .returned (.agg #[.func (.func 185) #[] #[], .func (.func 186) #[] #[], .func (.func 187) #[] #[], .func (.func 188) #[] #[], .func (.func 189) #[] #[]]) ∧ Below w.heap.size w w' := by
  go_enter Tryz.func175, Tryz.ntmps175
  go_wp2
  exact bodyPost_ret (v := .agg #[.func (.func 185) #[] #[], .func (.func 186) #[] #[], .func (.func 187) #[] #[], .func (.func 188) #[] #[], .func (.func 189) #[] #[]]) (by simp [results, Tryz.results175, go_sem, ↓IntWalk.iteOmega]) rfl ⟨rfl, skB⟩

theorem withColor_calls (ur ug ub ua ut uc ui : Int) (ul : Bool) (un : Int) (vr vg vb va vt vc vi : Int) (vl : Bool) (vn : Int) (w : World) :
    Calls Tryz.prog 185 #[.agg #[.int .u8 ur, .int .u8 ug, .int .u8 ub, .int .u8 ua, .int .i64 ut, .int .u8 uc, .int .i64 ui, .bool ul, .int .i64 un], .agg #[.int .u8 vr, .int .u8 vg, .int .u8 vb, .int .u8 va, .int .i64 vt, .int .u8 vc, .int .i64 vi, .bool vl, .int .i64 vn]] w fun e w' => e = .returned (.agg #[.int .u8 vr, .int .u8 vg, .int .u8 vb, .int .u8 va, .int .i64 ut, .int .u8 uc, .int .i64 ui, .bool ul, .int .i64 un]) ∧ Below w.heap.size w w' := by
  go_enter Tryz.func185, Tryz.ntmps185
  go_wp2
  exact bodyPost_ret (v := .agg #[.int .u8 vr, .int .u8 vg, .int .u8 vb, .int .u8 va, .int .i64 ut, .int .u8 uc, .int .i64 ui, .bool ul, .int .i64 un]) (by simp [results, Tryz.results185, go_sem, ↓IntWalk.iteOmega]) rfl ⟨rfl, skB⟩

theorem withTexture_calls (ur ug ub ua ut uc ui : Int) (ul : Bool) (un : Int) (vr vg vb va vt vc vi : Int) (vl : Bool) (vn : Int) (w : World) :
    Calls Tryz.prog 186 #[.agg #[.int .u8 ur, .int .u8 ug, .int .u8 ub, .int .u8 ua, .int .i64 ut, .int .u8 uc, .int .i64 ui, .bool ul, .int .i64 un], .agg #[.int .u8 vr, .int .u8 vg, .int .u8 vb, .int .u8 va, .int .i64 vt, .int .u8 vc, .int .i64 vi, .bool vl, .int .i64 vn]] w fun e w' => e = .returned (.agg #[.int .u8 ur, .int .u8 ug, .int .u8 ub, .int .u8 ua, .int .i64 vt, .int .u8 uc, .int .i64 ui, .bool ul, .int .i64 un]) ∧ Below w.heap.size w w' := by
  go_enter Tryz.func186, Tryz.ntmps186
  go_wp2
  exact bodyPost_ret (v := .agg #[.int .u8 ur, .int .u8 ug, .int .u8 ub, .int .u8 ua, .int .i64 vt, .int .u8 uc, .int .i64 ui, .bool ul, .int .i64 un]) (by simp [results, Tryz.results186, go_sem, ↓IntWalk.iteOmega]) rfl ⟨rfl, skB⟩

theorem withCull_calls (ur ug ub ua ut uc ui : Int) (ul : Bool) (un : Int) (vr vg vb va vt vc vi : Int) (vl : Bool) (vn : Int) (w : World) :
    Calls Tryz.prog 187 #[.agg #[.int .u8 ur, .int .u8 ug, .int .u8 ub, .int .u8 ua, .int .i64 ut, .int .u8 uc, .int .i64 ui, .bool ul, .int .i64 un], .agg #[.int .u8 vr, .int .u8 vg, .int .u8 vb, .int .u8 va, .int .i64 vt, .int .u8 vc, .int .i64 vi, .bool vl, .int .i64 vn]] w fun e w' => e = .returned (.agg #[.int .u8 ur, .int .u8 ug, .int .u8 ub, .int .u8 ua, .int .i64 ut, .int .u8 vc, .int .i64 ui, .bool ul, .int .i64 un]) ∧ Below w.heap.size w w' := by
  go_enter Tryz.func187, Tryz.ntmps187
  go_wp2
  exact bodyPost_ret (v := .agg #[.int .u8 ur, .int .u8 ug, .int .u8 ub, .int .u8 ua, .int .i64 ut, .int .u8 vc, .int .i64 ui, .bool ul, .int .i64 un]) (by simp [results, Tryz.results187, go_sem, ↓IntWalk.iteOmega]) rfl ⟨rfl, skB⟩

theorem withBias_calls (ur ug ub ua ut uc ui : Int) (ul : Bool) (un : Int) (vr vg vb va vt vc vi : Int) (vl : Bool) (vn : Int) (w : World) :
    Calls Tryz.prog 188 #[.agg #[.int .u8 ur, .int .u8 ug, .int .u8 ub, .int .u8 ua, .int .i64 ut, .int .u8 uc, .int .i64 ui, .bool ul, .int .i64 un], .agg #[.int .u8 vr, .int .u8 vg, .int .u8 vb, .int .u8 va, .int .i64 vt, .int .u8 vc, .int .i64 vi, .bool vl, .int .i64 vn]] w fun e w' => e = .returned (.agg #[.int .u8 ur, .int .u8 ug, .int .u8 ub, .int .u8 ua, .int .i64 ut, .int .u8 uc, .int .i64 vi, .bool ul, .int .i64 un]) ∧ Below w.heap.size w w' := by
  go_enter Tryz.func188, Tryz.ntmps188
  go_wp2
  exact bodyPost_ret (v := .agg #[.int .u8 ur, .int .u8 ug, .int .u8 ub, .int .u8 ua, .int .i64 ut, .int .u8 uc, .int .i64 vi, .bool ul, .int .i64 un]) (by simp [results, Tryz.results188, go_sem, ↓IntWalk.iteOmega]) rfl ⟨rfl, skB⟩

theorem withBlend_calls (ur ug ub ua ut uc ui : Int) (ul : Bool) (un : Int) (vr vg vb va vt vc vi : Int) (vl : Bool) (vn : Int) (w : World) :
    Calls Tryz.prog 189 #[.agg #[.int .u8 ur, .int .u8 ug, .int .u8 ub, .int .u8 ua, .int .i64 ut, .int .u8 uc, .int .i64 ui, .bool ul, .int .i64 un], .agg #[.int .u8 vr, .int .u8 vg, .int .u8 vb, .int .u8 va, .int .i64 vt, .int .u8 vc, .int .i64 vi, .bool vl, .int .i64 vn]] w fun e w' => e = .returned (.agg #[.int .u8 ur, .int .u8 ug, .int .u8 ub, .int .u8 ua, .int .i64 ut, .int .u8 uc, .int .i64 ui, .bool vl, .int .i64 vn]) ∧ Below w.heap.size w w' := by
  go_enter Tryz.func189, Tryz.ntmps189
  go_wp2
  go_region
  all_goals
    go_wp2
    exact bodyPost_ret (v := .agg #[.int .u8 ur, .int .u8 ug, .int .u8 ub, .int .u8 ua, .int .i64 ut, .int .u8 uc, .int .i64 ui, .bool vl, .int .i64 vn]) (by simp [results, Tryz.results189, go_sem, ↓IntWalk.iteOmega]) rfl ⟨rfl, skB⟩

end

section


open Go.RowKit Go.ChangeShapes Go.WideShapes Go.ChangeAt

set_option linter.unusedSimpArgs false

set_option linter.unusedVariables false

attribute [local go_sem] plus_size plus_drew dn_set dn_alloc dn_plus plus_dn cell_plus frozen_plus set_plus cell_alloc frozen_alloc set_alloc

@[local go_sem] theorem ixf_0 (a b c d e : Value) (w : World) : (Instr.index 223 (.agg #[a, b, c, d, e]) (.int .i64 0)).run Tryz.prog w = .ok a w := by kernel_rfl

@[local go_sem] theorem ixf_1 (a b c d e : Value) (w : World) : (Instr.index 223 (.agg #[a, b, c, d, e]) (.int .i64 1)).run Tryz.prog w = .ok b w := by kernel_rfl

@[local go_sem] theorem ixf_2 (a b c d e : Value) (w : World) : (Instr.index 223 (.agg #[a, b, c, d, e]) (.int .i64 2)).run Tryz.prog w = .ok c w := by kernel_rfl

@[local go_sem] theorem ixf_3 (a b c d e : Value) (w : World) : (Instr.index 223 (.agg #[a, b, c, d, e]) (.int .i64 3)).run Tryz.prog w = .ok d w := by kernel_rfl

@[local go_sem] theorem ixf_4 (a b c d e : Value) (w : World) : (Instr.index 223 (.agg #[a, b, c, d, e]) (.int .i64 4)).run Tryz.prog w = .ok e w := by kernel_rfl

set_option maxRecDepth 100000 in
set_option maxHeartbeats 4000000 in
theorem said_calls (s0 s1 s2 s3 s4 : Int) (vr vg vb va vt vc vi : Int) (vl : Bool) (vn : Int) (w : World) :
    Calls Tryz.prog 146 #[.agg #[.int .u8 s0, .int .u8 s1, .int .u8 s2, .int .u8 s3, .int .u8 s4, .int .u8 vr, .int .u8 vg, .int .u8 vb, .int .u8 va, .int .i64 vt, .int .u8 vc, .int .i64 vi, .bool vl, .int .i64 vn]] w fun e w' => e = .returned (.agg #[.int .u8 ((said ⟨s0, s1, s2, s3, s4, ⟨vr, vg, vb, va, vt, vc, vi, vl, vn⟩⟩)).r, .int .u8 ((said ⟨s0, s1, s2, s3, s4, ⟨vr, vg, vb, va, vt, vc, vi, vl, vn⟩⟩)).g, .int .u8 ((said ⟨s0, s1, s2, s3, s4, ⟨vr, vg, vb, va, vt, vc, vi, vl, vn⟩⟩)).b, .int .u8 ((said ⟨s0, s1, s2, s3, s4, ⟨vr, vg, vb, va, vt, vc, vi, vl, vn⟩⟩)).a, .int .i64 ((said ⟨s0, s1, s2, s3, s4, ⟨vr, vg, vb, va, vt, vc, vi, vl, vn⟩⟩)).tx, .int .u8 ((said ⟨s0, s1, s2, s3, s4, ⟨vr, vg, vb, va, vt, vc, vi, vl, vn⟩⟩)).cu, .int .i64 ((said ⟨s0, s1, s2, s3, s4, ⟨vr, vg, vb, va, vt, vc, vi, vl, vn⟩⟩)).bi, .bool ((said ⟨s0, s1, s2, s3, s4, ⟨vr, vg, vb, va, vt, vc, vi, vl, vn⟩⟩)).bl, .int .i64 ((said ⟨s0, s1, s2, s3, s4, ⟨vr, vg, vb, va, vt, vc, vi, vl, vn⟩⟩)).bn]) ∧ Below w.heap.size w w' := by
  obtain ⟨S, hS⟩ : ∃ S : Sy, S = ⟨s0, s1, s2, s3, s4, ⟨vr, vg, vb, va, vt, vc, vi, vl, vn⟩⟩ := ⟨_, rfl⟩
  rw [← hS]
  go_enter Tryz.func146, Tryz.ntmps146
  go_wp2_with (go_at_call 175; refine (plus_post (things_calls _)).mono ?_; rintro e w' ⟨rfl, nx, rfl⟩)
  go_loopw [7] (fun i wr => ∃ (k : Nat) (kv : Int), k ≤ 5 ∧ kv = k ∧ i = .int .i64 kv ∧ ∃ x, wr = plus (((w.alloc (.cells #[.int .u8 s0, .int .u8 s1, .int .u8 s2, .int .u8 s3, .int .u8 s4, .int .u8 vr, .int .u8 vg, .int .u8 vb, .int .u8 va, .int .i64 vt, .int .u8 vc, .int .i64 vi, .bool vl, .int .i64 vn] 54)).alloc (.cells #[.int .u8 0, .int .u8 0, .int .u8 0, .int .u8 0, .int .i64 0, .int .u8 0, .int .i64 0, .bool false, .int .i64 0] 52)).alloc (.cells #[.int .u8 ((saidTo S k)).r, .int .u8 ((saidTo S k)).g, .int .u8 ((saidTo S k)).b, .int .u8 ((saidTo S k)).a, .int .i64 ((saidTo S k)).tx, .int .u8 ((saidTo S k)).cu, .int .i64 ((saidTo S k)).bi, .bool ((saidTo S k)).bl, .int .i64 ((saidTo S k)).bn] 52)) x) (fun i _ => 5 - (intOf i).toNat)
  case atStart => exact ⟨0, 0, by omega, rfl, rfl, by simp only [saidTo, lk0]; exact sk0⟩
  case round =>
    obtain ⟨k, kv, hk, hkv, rfl, x, rfl⟩ := hrel
    rcases (show k = 0 ∨ k = 1 ∨ k = 2 ∨ k = 3 ∨ k = 4 ∨ k = 5 by omega) with rfl | rfl | rfl | rfl | rfl | rfl
    · obtain rfl : kv = 0 := by omega
      obtain ⟨J, hJ⟩ : ∃ J, saidTo S 0 = J := ⟨_, rfl⟩
      rw [hJ]
      by_cases hs : s0 = 0
      · have e : saidTo S 1 = J := by
          show sd S (saidTo S 0) 0 = J
          rw [hJ, hS]
          simp [sd, t0, hs]
        clear hS hkv hk hJ
        subst hs
        go_wp2
        go_roundw
        case rel => exact ⟨1, 1, by omega, rfl, by go_num, by rw [e]; exact sk0⟩
        case measure => simp [intOf]
      · have e : saidTo S 1 = ⟨vr, vg, vb, va, J.tx, J.cu, J.bi, J.bl, J.bn⟩ := by
          show sd S (saidTo S 0) 0 = _
          rw [hJ, hS]
          simp [sd, t0, hs]
        clear hS hkv hk hJ
        go_wp2_with (first | (go_at_call 185; refine (plus_post (withColor_calls _ _ _ _ _ _ _ _ _ _ _ _ _ _ _ _ _ _ _)).mono ?_; rintro e w' ⟨rfl, nx, rfl⟩) | (go_at_call 186; refine (plus_post (withTexture_calls _ _ _ _ _ _ _ _ _ _ _ _ _ _ _ _ _ _ _)).mono ?_; rintro e w' ⟨rfl, nx, rfl⟩) | (go_at_call 187; refine (plus_post (withCull_calls _ _ _ _ _ _ _ _ _ _ _ _ _ _ _ _ _ _ _)).mono ?_; rintro e w' ⟨rfl, nx, rfl⟩) | (go_at_call 188; refine (plus_post (withBias_calls _ _ _ _ _ _ _ _ _ _ _ _ _ _ _ _ _ _ _)).mono ?_; rintro e w' ⟨rfl, nx, rfl⟩) | (go_at_call 189; refine (plus_post (withBlend_calls _ _ _ _ _ _ _ _ _ _ _ _ _ _ _ _ _ _ _)).mono ?_; rintro e w' ⟨rfl, nx, rfl⟩))
        go_roundw
        case rel => exact ⟨1, 1, by omega, rfl, by go_num, by simp only [e]; exact sk0⟩
        case measure => simp [intOf]
    · obtain rfl : kv = 1 := by omega
      obtain ⟨J, hJ⟩ : ∃ J, saidTo S 1 = J := ⟨_, rfl⟩
      rw [hJ]
      by_cases hs : s1 = 0
      · have e : saidTo S 2 = J := by
          show sd S (saidTo S 1) 1 = J
          rw [hJ, hS]
          simp [sd, t1, hs]
        clear hS hkv hk hJ
        subst hs
        go_wp2
        go_roundw
        case rel => exact ⟨2, 2, by omega, rfl, by go_num, by rw [e]; exact sk0⟩
        case measure => simp [intOf]
      · have e : saidTo S 2 = ⟨J.r, J.g, J.b, J.a, vt, J.cu, J.bi, J.bl, J.bn⟩ := by
          show sd S (saidTo S 1) 1 = _
          rw [hJ, hS]
          simp [sd, t1, hs]
        clear hS hkv hk hJ
        go_wp2_with (first | (go_at_call 185; refine (plus_post (withColor_calls _ _ _ _ _ _ _ _ _ _ _ _ _ _ _ _ _ _ _)).mono ?_; rintro e w' ⟨rfl, nx, rfl⟩) | (go_at_call 186; refine (plus_post (withTexture_calls _ _ _ _ _ _ _ _ _ _ _ _ _ _ _ _ _ _ _)).mono ?_; rintro e w' ⟨rfl, nx, rfl⟩) | (go_at_call 187; refine (plus_post (withCull_calls _ _ _ _ _ _ _ _ _ _ _ _ _ _ _ _ _ _ _)).mono ?_; rintro e w' ⟨rfl, nx, rfl⟩) | (go_at_call 188; refine (plus_post (withBias_calls _ _ _ _ _ _ _ _ _ _ _ _ _ _ _ _ _ _ _)).mono ?_; rintro e w' ⟨rfl, nx, rfl⟩) | (go_at_call 189; refine (plus_post (withBlend_calls _ _ _ _ _ _ _ _ _ _ _ _ _ _ _ _ _ _ _)).mono ?_; rintro e w' ⟨rfl, nx, rfl⟩))
        go_roundw
        case rel => exact ⟨2, 2, by omega, rfl, by go_num, by simp only [e]; exact sk0⟩
        case measure => simp [intOf]
    · obtain rfl : kv = 2 := by omega
      obtain ⟨J, hJ⟩ : ∃ J, saidTo S 2 = J := ⟨_, rfl⟩
      rw [hJ]
      by_cases hs : s2 = 0
      · have e : saidTo S 3 = J := by
          show sd S (saidTo S 2) 2 = J
          rw [hJ, hS]
          simp [sd, t2, hs]
        clear hS hkv hk hJ
        subst hs
        go_wp2
        go_roundw
        case rel => exact ⟨3, 3, by omega, rfl, by go_num, by rw [e]; exact sk0⟩
        case measure => simp [intOf]
      · have e : saidTo S 3 = ⟨J.r, J.g, J.b, J.a, J.tx, vc, J.bi, J.bl, J.bn⟩ := by
          show sd S (saidTo S 2) 2 = _
          rw [hJ, hS]
          simp [sd, t2, hs]
        clear hS hkv hk hJ
        go_wp2_with (first | (go_at_call 185; refine (plus_post (withColor_calls _ _ _ _ _ _ _ _ _ _ _ _ _ _ _ _ _ _ _)).mono ?_; rintro e w' ⟨rfl, nx, rfl⟩) | (go_at_call 186; refine (plus_post (withTexture_calls _ _ _ _ _ _ _ _ _ _ _ _ _ _ _ _ _ _ _)).mono ?_; rintro e w' ⟨rfl, nx, rfl⟩) | (go_at_call 187; refine (plus_post (withCull_calls _ _ _ _ _ _ _ _ _ _ _ _ _ _ _ _ _ _ _)).mono ?_; rintro e w' ⟨rfl, nx, rfl⟩) | (go_at_call 188; refine (plus_post (withBias_calls _ _ _ _ _ _ _ _ _ _ _ _ _ _ _ _ _ _ _)).mono ?_; rintro e w' ⟨rfl, nx, rfl⟩) | (go_at_call 189; refine (plus_post (withBlend_calls _ _ _ _ _ _ _ _ _ _ _ _ _ _ _ _ _ _ _)).mono ?_; rintro e w' ⟨rfl, nx, rfl⟩))
        go_roundw
        case rel => exact ⟨3, 3, by omega, rfl, by go_num, by simp only [e]; exact sk0⟩
        case measure => simp [intOf]
    · obtain rfl : kv = 3 := by omega
      obtain ⟨J, hJ⟩ : ∃ J, saidTo S 3 = J := ⟨_, rfl⟩
      rw [hJ]
      by_cases hs : s3 = 0
      · have e : saidTo S 4 = J := by
          show sd S (saidTo S 3) 3 = J
          rw [hJ, hS]
          simp [sd, t3, hs]
        clear hS hkv hk hJ
        subst hs
        go_wp2
        go_roundw
        case rel => exact ⟨4, 4, by omega, rfl, by go_num, by rw [e]; exact sk0⟩
        case measure => simp [intOf]
      · have e : saidTo S 4 = ⟨J.r, J.g, J.b, J.a, J.tx, J.cu, vi, J.bl, J.bn⟩ := by
          show sd S (saidTo S 3) 3 = _
          rw [hJ, hS]
          simp [sd, t3, hs]
        clear hS hkv hk hJ
        go_wp2_with (first | (go_at_call 185; refine (plus_post (withColor_calls _ _ _ _ _ _ _ _ _ _ _ _ _ _ _ _ _ _ _)).mono ?_; rintro e w' ⟨rfl, nx, rfl⟩) | (go_at_call 186; refine (plus_post (withTexture_calls _ _ _ _ _ _ _ _ _ _ _ _ _ _ _ _ _ _ _)).mono ?_; rintro e w' ⟨rfl, nx, rfl⟩) | (go_at_call 187; refine (plus_post (withCull_calls _ _ _ _ _ _ _ _ _ _ _ _ _ _ _ _ _ _ _)).mono ?_; rintro e w' ⟨rfl, nx, rfl⟩) | (go_at_call 188; refine (plus_post (withBias_calls _ _ _ _ _ _ _ _ _ _ _ _ _ _ _ _ _ _ _)).mono ?_; rintro e w' ⟨rfl, nx, rfl⟩) | (go_at_call 189; refine (plus_post (withBlend_calls _ _ _ _ _ _ _ _ _ _ _ _ _ _ _ _ _ _ _)).mono ?_; rintro e w' ⟨rfl, nx, rfl⟩))
        go_roundw
        case rel => exact ⟨4, 4, by omega, rfl, by go_num, by simp only [e]; exact sk0⟩
        case measure => simp [intOf]
    · obtain rfl : kv = 4 := by omega
      obtain ⟨J, hJ⟩ : ∃ J, saidTo S 4 = J := ⟨_, rfl⟩
      rw [hJ]
      by_cases hs : s4 = 0
      · have e : saidTo S 5 = J := by
          show sd S (saidTo S 4) 4 = J
          rw [hJ, hS]
          simp [sd, t4, hs]
        clear hS hkv hk hJ
        subst hs
        go_wp2
        go_roundw
        case rel => exact ⟨5, 5, by omega, rfl, by go_num, by rw [e]; exact sk0⟩
        case measure => simp [intOf]
      · have e : saidTo S 5 = ⟨J.r, J.g, J.b, J.a, J.tx, J.cu, J.bi, vl, vn⟩ := by
          show sd S (saidTo S 4) 4 = _
          rw [hJ, hS]
          simp [sd, t4, hs]
        clear hS hkv hk hJ
        go_wp2_with (first | (go_at_call 185; refine (plus_post (withColor_calls _ _ _ _ _ _ _ _ _ _ _ _ _ _ _ _ _ _ _)).mono ?_; rintro e w' ⟨rfl, nx, rfl⟩) | (go_at_call 186; refine (plus_post (withTexture_calls _ _ _ _ _ _ _ _ _ _ _ _ _ _ _ _ _ _ _)).mono ?_; rintro e w' ⟨rfl, nx, rfl⟩) | (go_at_call 187; refine (plus_post (withCull_calls _ _ _ _ _ _ _ _ _ _ _ _ _ _ _ _ _ _ _)).mono ?_; rintro e w' ⟨rfl, nx, rfl⟩) | (go_at_call 188; refine (plus_post (withBias_calls _ _ _ _ _ _ _ _ _ _ _ _ _ _ _ _ _ _ _)).mono ?_; rintro e w' ⟨rfl, nx, rfl⟩) | (go_at_call 189; refine (plus_post (withBlend_calls _ _ _ _ _ _ _ _ _ _ _ _ _ _ _ _ _ _ _)).mono ?_; rintro e w' ⟨rfl, nx, rfl⟩))
        go_roundw
        case rel => exact ⟨5, 5, by omega, rfl, by go_num, by simp only [e]; exact sk0⟩
        case measure => simp [intOf]
    · obtain rfl : kv = 5 := by omega
      clear hS hkv hk
      rw [show saidTo S 5 = said S from rfl]
      go_wp2
      exact bodyPost_ret (v := .agg #[.int .u8 ((said S)).r, .int .u8 ((said S)).g, .int .u8 ((said S)).b, .int .u8 ((said S)).a, .int .i64 ((said S)).tx, .int .u8 ((said S)).cu, .int .i64 ((said S)).bi, .bool ((said S)).bl, .int .i64 ((said S)).bn]) (by simp [results, Tryz.results146, go_sem, ↓IntWalk.iteOmega]) rfl ⟨by rfl, skB⟩

end

section


open Go.RowKit Go.ChangeShapes Go.WideShapes Go.ChangeAt

set_option linter.unusedSimpArgs false

set_option linter.unusedVariables false

attribute [local go_sem] plus_size plus_drew dn_set dn_alloc dn_plus plus_dn cell_plus frozen_plus set_plus cell_alloc frozen_alloc set_alloc

attribute [local go_sem] eq4_refl eq5_refl

attribute [local go_sem] col_49

attribute [local go_sem] col_50

attribute [local go_sem] col9_49

attribute [local go_sem] col9_50

attribute [local go_sem] col8_49

attribute [local go_sem] col8_50

attribute [local go_sem] larr_48

@[local go_sem] theorem ixs_0 (a b c d e : Value) (w : World) : (Instr.index 48 (.agg #[a, b, c, d, e]) (.int .i64 0)).run Tryz.prog w = .ok a w := by kernel_rfl

@[local go_sem] theorem ixs_1 (a b c d e : Value) (w : World) : (Instr.index 48 (.agg #[a, b, c, d, e]) (.int .i64 1)).run Tryz.prog w = .ok b w := by kernel_rfl

@[local go_sem] theorem ixs_2 (a b c d e : Value) (w : World) : (Instr.index 48 (.agg #[a, b, c, d, e]) (.int .i64 2)).run Tryz.prog w = .ok c w := by kernel_rfl

@[local go_sem] theorem ixs_3 (a b c d e : Value) (w : World) : (Instr.index 48 (.agg #[a, b, c, d, e]) (.int .i64 3)).run Tryz.prog w = .ok d w := by kernel_rfl

@[local go_sem] theorem ixs_4 (a b c d e : Value) (w : World) : (Instr.index 48 (.agg #[a, b, c, d, e]) (.int .i64 4)).run Tryz.prog w = .ok e w := by kernel_rfl

set_option maxHeartbeats 4000000 in
theorem sty_calls (s0 s1 s2 s3 s4 : Int) (vr vg vb va vt vc vi : Int) (vl : Bool) (vn : Int) (hB : SyB ⟨s0, s1, s2, s3, s4, ⟨vr, vg, vb, va, vt, vc, vi, vl, vn⟩⟩) (w : World) :
    Calls Tryz.prog 92 #[.agg #[.int .u8 s0, .int .u8 s1, .int .u8 s2, .int .u8 s3, .int .u8 s4, .int .u8 vr, .int .u8 vg, .int .u8 vb, .int .u8 va, .int .i64 vt, .int .u8 vc, .int .i64 vi, .bool vl, .int .i64 vn]] w fun e w' => e = .returned (.int .i64 (styErr ⟨s0, s1, s2, s3, s4, ⟨vr, vg, vb, va, vt, vc, vi, vl, vn⟩⟩)) ∧ Below w.heap.size w w' := by
  obtain ⟨b0, b1, b2, b3, b4, _⟩ := hB
  simp only at b0 b1 b2 b3 b4
  cases r0 : sayOk s0
  · rw [show styErr ⟨s0, s1, s2, s3, s4, ⟨vr, vg, vb, va, vt, vc, vi, vl, vn⟩⟩ = 8 by simp [styErr, styOk, saysOk, r0]]
    go_enter Tryz.func92, Tryz.ntmps92
    go_wp2
    refine wp_loop_rounds 6 ?_
    repeat any_goals (rw [rounds_succ]; go_wp2_with (go_at_call 144; refine (plus_post (say_calls _ (by assumption) _)).mono ?_; rintro e w' ⟨rfl, nx, rfl⟩))
    go_ret
    exact ⟨rfl, skB⟩
  cases r1 : sayOk s1
  · rw [show styErr ⟨s0, s1, s2, s3, s4, ⟨vr, vg, vb, va, vt, vc, vi, vl, vn⟩⟩ = 8 by simp [styErr, styOk, saysOk, r1]]
    go_enter Tryz.func92, Tryz.ntmps92
    go_wp2
    refine wp_loop_rounds 6 ?_
    repeat any_goals (rw [rounds_succ]; go_wp2_with (go_at_call 144; refine (plus_post (say_calls _ (by assumption) _)).mono ?_; rintro e w' ⟨rfl, nx, rfl⟩))
    go_ret
    exact ⟨rfl, skB⟩
  cases r2 : sayOk s2
  · rw [show styErr ⟨s0, s1, s2, s3, s4, ⟨vr, vg, vb, va, vt, vc, vi, vl, vn⟩⟩ = 8 by simp [styErr, styOk, saysOk, r2]]
    go_enter Tryz.func92, Tryz.ntmps92
    go_wp2
    refine wp_loop_rounds 6 ?_
    repeat any_goals (rw [rounds_succ]; go_wp2_with (go_at_call 144; refine (plus_post (say_calls _ (by assumption) _)).mono ?_; rintro e w' ⟨rfl, nx, rfl⟩))
    go_ret
    exact ⟨rfl, skB⟩
  cases r3 : sayOk s3
  · rw [show styErr ⟨s0, s1, s2, s3, s4, ⟨vr, vg, vb, va, vt, vc, vi, vl, vn⟩⟩ = 8 by simp [styErr, styOk, saysOk, r3]]
    go_enter Tryz.func92, Tryz.ntmps92
    go_wp2
    refine wp_loop_rounds 6 ?_
    repeat any_goals (rw [rounds_succ]; go_wp2_with (go_at_call 144; refine (plus_post (say_calls _ (by assumption) _)).mono ?_; rintro e w' ⟨rfl, nx, rfl⟩))
    go_ret
    exact ⟨rfl, skB⟩
  cases r4 : sayOk s4
  · rw [show styErr ⟨s0, s1, s2, s3, s4, ⟨vr, vg, vb, va, vt, vc, vi, vl, vn⟩⟩ = 8 by simp [styErr, styOk, saysOk, r4]]
    go_enter Tryz.func92, Tryz.ntmps92
    go_wp2
    refine wp_loop_rounds 6 ?_
    repeat any_goals (rw [rounds_succ]; go_wp2_with (go_at_call 144; refine (plus_post (say_calls _ (by assumption) _)).mono ?_; rintro e w' ⟨rfl, nx, rfl⟩))
    go_ret
    exact ⟨rfl, skB⟩
  cases hL : lookOk ⟨vr, vg, vb, va, vt, vc, vi, vl, vn⟩
  · have e1 : lookErr ⟨vr, vg, vb, va, vt, vc, vi, vl, vn⟩ = 8 := by rw [lookErr, hL]; rfl
    rw [show styErr ⟨s0, s1, s2, s3, s4, ⟨vr, vg, vb, va, vt, vc, vi, vl, vn⟩⟩ = 8 by simp [styErr, styOk, hL]]
    clear hL
    go_enter Tryz.func92, Tryz.ntmps92
    go_wp2
    refine wp_loop_rounds 6 ?_
    repeat any_goals (rw [rounds_succ]; go_wp2_with (go_at_call 144; refine (plus_post (say_calls _ (by assumption) _)).mono ?_; rintro e w' ⟨rfl, nx, rfl⟩))
    refine region_plus (by kernel_rfl) (by kernel_rfl) ?_
    (repeat (go_big_quiet_step ((first | (go_at_call 145; exact plus_of (look_calls _ _ _ _ _ _ _ _ _ _)) | (go_at_call 146; exact plus_of (said_calls _ _ _ _ _ _ _ _ _ _ _ _ _ _ _))))))
    refine wpQuiet_nil ?_
    rintro _ ⟨x2, rfl⟩
    go_wp2
    go_ret
    exact ⟨rfl, skB⟩
  have e1 : lookErr ⟨vr, vg, vb, va, vt, vc, vi, vl, vn⟩ = 0 := by rw [lookErr, hL]; rfl
  obtain ⟨J, hJ⟩ : ∃ J, said ⟨s0, s1, s2, s3, s4, ⟨vr, vg, vb, va, vt, vc, vi, vl, vn⟩⟩ = J := ⟨_, rfl⟩
  have e3 : styErr ⟨s0, s1, s2, s3, s4, ⟨vr, vg, vb, va, vt, vc, vi, vl, vn⟩⟩ = if eqL J ⟨vr, vg, vb, va, vt, vc, vi, vl, vn⟩ then 0 else 8 := by simp [styErr, styOk, saysOk, r0, r1, r2, r3, r4, hL, hJ]
  rw [e3]
  clear e3 hL
  cases hq : eqL J ⟨vr, vg, vb, va, vt, vc, vi, vl, vn⟩
  · rcases eqL_no hq with h1 | ⟨h1, h2 | ⟨h2, h3 | ⟨h3, h4 | ⟨h4, h5 | ⟨h5, h6⟩⟩⟩⟩⟩
    all_goals
      clear hq
      simp only at h1
      try simp only at h2
      try simp only at h3
      try simp only at h4
      try simp only at h5
      try simp only at h6
      go_enter Tryz.func92, Tryz.ntmps92
      go_wp2
      refine wp_loop_rounds 6 ?_
      repeat any_goals (rw [rounds_succ]; go_wp2_with (go_at_call 144; refine (plus_post (say_calls _ (by assumption) _)).mono ?_; rintro e w' ⟨rfl, nx, rfl⟩))
      refine region_plus (by kernel_rfl) (by kernel_rfl) ?_
      (repeat (go_big_quiet_step ((first | (go_at_call 145; exact plus_of (look_calls _ _ _ _ _ _ _ _ _ _)) | (go_at_call 146; exact plus_of (said_calls _ _ _ _ _ _ _ _ _ _ _ _ _ _ _))))))
      refine wpQuiet_nil ?_
      rintro _ ⟨x2, rfl⟩
      go_wp2
      go_ret
      exact ⟨rfl, skB⟩
  · obtain rfl := eqL_iff.1 hq
    clear hq
    go_enter Tryz.func92, Tryz.ntmps92
    go_wp2
    refine wp_loop_rounds 6 ?_
    repeat any_goals (rw [rounds_succ]; go_wp2_with (go_at_call 144; refine (plus_post (say_calls _ (by assumption) _)).mono ?_; rintro e w' ⟨rfl, nx, rfl⟩))
    refine region_plus (by kernel_rfl) (by kernel_rfl) ?_
    (repeat (go_big_quiet_step ((first | (go_at_call 145; exact plus_of (look_calls _ _ _ _ _ _ _ _ _ _)) | (go_at_call 146; exact plus_of (said_calls _ _ _ _ _ _ _ _ _ _ _ _ _ _ _))))))
    refine wpQuiet_nil ?_
    rintro _ ⟨x2, rfl⟩
    go_wp2
    go_ret
    exact ⟨rfl, skB⟩

end

section


open Go.RowKit Go.ChangeShapes Go.WideShapes Go.ChangeAt

set_option linter.unusedSimpArgs false

set_option linter.unusedVariables false

attribute [local go_sem] plus_size plus_drew dn_set dn_alloc dn_plus plus_dn cell_plus frozen_plus set_plus cell_alloc frozen_alloc set_alloc

def styMay (nt : Nat) (y : Sy) : Bool := styOk y && (decide (y.s1 = 0) || decide (y.l.tx < (nt : Int)))

def nmb (nm : Nat) (n : Nd) : Bool :=
  if n.f.kind = 1 ∨ n.f.kind = 3 then true else if n.f.kind = 2 then mayM n.f.m else if n.f.kind = 4 then all3 n.f.cen 4096 && distOk n.far else if n.f.kind = 5 then decide (0 ≤ n.f.mesh ∧ n.f.mesh < nm) else false

theorem sameI_nil (l : List Int) : sameI l [] = decide (l.length = 0) := by
  cases l with
  | nil => rfl
  | cons a l => exact (same_len (by simp)).trans (by simp)

theorem mayNd_named {nm nt : Nat} {n : Nd} (hs1 : 0 ≤ n.f.sty.s1) : mayNd nm nt n = (styMay nt n.f.sty && (sameNd n (namedNd n) && nmb nm n)) := by
  obtain ⟨⟨k, m, o, c, e, y⟩, f⟩ := n
  simp only at hs1
  have hty : (!(decide (0 < y.s1) && decide ((nt : Int) ≤ y.l.tx))) = (decide (y.s1 = 0) || decide (y.l.tx < (nt : Int))) := by
    by_cases h1 : y.s1 = 0 <;> by_cases h2 : y.l.tx < (nt : Int) <;> simp [h1, h2] <;> omega
  have hI : sameI f f = true := same_refl eqI_refl _
  unfold mayNd styMay sameNd namedNd namedF nmb
  simp only [hty, eqsy_refl, decide_true, Bool.true_and, Bool.and_true]
  generalize (decide (y.s1 = 0) || decide (y.l.tx < (nt : Int))) = b2
  generalize styOk y = b1
  have key : ∀ X, ((eqv c zeroV && decide (f.length = 0)) && (X && (all3 c 4096 && distOk f))) = ((eqv c zeroV && decide (f.length = 0)) && X) := by
    intro X
    cases hc : eqv c zeroV
    · rfl
    by_cases hf : f.length = 0
    · obtain rfl := eqv_eq hc
      obtain rfl := List.eq_nil_of_length_eq_zero hf
      rw [show all3 zeroV 4096 = true from rfl, show distOk [] = true from rfl, Bool.and_true, Bool.and_true]
    · rw [decide_eq_false hf]; rfl
  have k1 := key (decide (e = 0))
  clear key
  by_cases h1 : k = 1
  · subst h1
    simp only [Int.reduceEq, reduceIte, sameI_nil]
    generalize (all3 c 4096 && distOk f) = A at *
    generalize eqmt m zeroM = q1 at *
    generalize decide (o = 0) = q2 at *
    generalize eqv c zeroV = q3 at *
    generalize decide (f.length = 0) = q4 at *
    generalize decide (e = 0) = q5 at *
    revert k1
    cases b1 <;> cases b2 <;> cases q1 <;> cases q2 <;> cases q3 <;> cases q4 <;> cases q5 <;> cases A <;> simp
  by_cases h2 : k = 2
  · subst h2
    simp only [Int.reduceEq, reduceIte, sameI_nil, eqmt_refl]
    generalize (all3 c 4096 && distOk f) = A at *
    generalize mayM m = q1 at *
    generalize decide (o = 0) = q2 at *
    generalize eqv c zeroV = q3 at *
    generalize decide (f.length = 0) = q4 at *
    generalize decide (e = 0) = q5 at *
    revert k1
    cases b1 <;> cases b2 <;> cases q1 <;> cases q2 <;> cases q3 <;> cases q4 <;> cases q5 <;> cases A <;> simp
  by_cases h3 : k = 3
  · subst h3
    simp only [Int.reduceEq, reduceIte, sameI_nil]
    generalize (all3 c 4096 && distOk f) = A at *
    generalize eqmt m zeroM = q1 at *
    generalize eqv c zeroV = q3 at *
    generalize decide (f.length = 0) = q4 at *
    generalize decide (e = 0) = q5 at *
    revert k1
    cases b1 <;> cases b2 <;> cases q1 <;> cases q3 <;> cases q4 <;> cases q5 <;> cases A <;> simp
  by_cases h4 : k = 4
  · subst h4
    simp only [Int.reduceEq, reduceIte, eqv_refl, hI]
    generalize all3 c 4096 = q3 at *
    generalize distOk f = q4 at *
    generalize eqmt m zeroM = q1 at *
    generalize decide (o = 0) = q2 at *
    generalize decide (e = 0) = q5 at *
    clear k1
    cases b1 <;> cases b2 <;> cases q1 <;> cases q2 <;> cases q3 <;> cases q4 <;> cases q5 <;> simp
  by_cases h5 : k = 5
  · subst h5
    simp only [Int.reduceEq, reduceIte, sameI_nil]
    generalize decide (0 ≤ e ∧ e < (nm : Int)) = A at *
    generalize eqmt m zeroM = q1 at *
    generalize decide (o = 0) = q2 at *
    generalize eqv c zeroV = q3 at *
    generalize decide (f.length = 0) = q4 at *
    clear k1
    cases b1 <;> cases b2 <;> cases q1 <;> cases q2 <;> cases q3 <;> cases q4 <;> cases A <;> simp
  simp only [h1, h2, h3, h4, h5, false_or, if_false, Bool.and_false]
  rw [show decide (1 ≤ k ∧ k ≤ 5) = false from decide_eq_false (by omega), Bool.false_and]

theorem lsty_is {s0 s1 s2 s3 s4 vr vg vb va vt vc vi : Int} {vl : Bool} {vn : Int} {b : Bool} {w : World} (h : styOk ⟨s0, s1, s2, s3, s4, ⟨vr, vg, vb, va, vt, vc, vi, vl, vn⟩⟩ = b) (hB : SyB ⟨s0, s1, s2, s3, s4, ⟨vr, vg, vb, va, vt, vc, vi, vl, vn⟩⟩) :
    Calls Tryz.prog 92 #[.agg #[.int .u8 s0, .int .u8 s1, .int .u8 s2, .int .u8 s3, .int .u8 s4, .int .u8 vr, .int .u8 vg, .int .u8 vb, .int .u8 va, .int .i64 vt, .int .u8 vc, .int .i64 vi, .bool vl, .int .i64 vn]] w fun e w' => e = .returned (.int .i64 (if b then 0 else 8)) ∧ Below w.heap.size w w' := by
  have h2 := sty_calls s0 s1 s2 s3 s4 vr vg vb va vt vc vi vl vn hB w
  unfold styErr at h2
  rw [h] at h2
  exact h2

set_option maxHeartbeats 2000000 in
theorem styMay_calls (ga ka na ma ta : Option Addr) (gn gc kn kc nn nc mn mc tn tc : Nat) (r0 r1 : Int) (y : Sy) (hB : SyB y) (w : World) : Calls Tryz.prog 47 #[.agg #[.slice ga gn gc, .slice ka kn kc, .slice na nn nc, .slice ma mn mc, .slice ta tn tc, .int .i64 r0, .int .i64 r1], .agg (syL y).toArray] w fun e w' => e = .returned (.bool (styMay tn y)) ∧ ∃ y, w' = plus w y := by
  obtain ⟨s0, s1, s2, s3, s4, ⟨vr, vg, vb, va, vt, vc, vi, vl, vn⟩⟩ := y
  simp only [syL]
  cases hs : styOk ⟨s0, s1, s2, s3, s4, ⟨vr, vg, vb, va, vt, vc, vi, vl, vn⟩⟩
  · rw [show styMay tn ⟨s0, s1, s2, s3, s4, ⟨vr, vg, vb, va, vt, vc, vi, vl, vn⟩⟩ = false by rw [styMay, hs]; rfl]
    go_enter Tryz.func47, Tryz.ntmps47
    go_wp2_with (go_at_call 92; refine (plus_post (lsty_is hs hB)).mono ?_; rintro e w' ⟨rfl, nx, rfl⟩)
    go_ret
    exact ⟨rfl, sk9⟩
  have hr : styMay tn ⟨s0, s1, s2, s3, s4, ⟨vr, vg, vb, va, vt, vc, vi, vl, vn⟩⟩ = (decide (s1 = 0) || decide (vt < (tn : Int))) := by rw [styMay, hs]; rfl
  rw [hr]
  by_cases h0 : s1 = 0
  · subst h0
    go_enter Tryz.func47, Tryz.ntmps47
    go_wp2_with (go_at_call 92; refine (plus_post (lsty_is hs hB)).mono ?_; rintro e w' ⟨rfl, nx, rfl⟩)
    go_ret
    exact ⟨rfl, sk9⟩
  have d0 : (s1 == 0) = false := by rw [beq_eq_false_iff_ne]; exact h0
  rw [decide_eq_false h0, Bool.false_or]
  by_cases h1 : vt < (tn : Int)
  · have e1 := decide_eq_true h1
    rw [e1]
    go_enter Tryz.func47, Tryz.ntmps47
    go_wp2_with (go_at_call 92; refine (plus_post (lsty_is hs hB)).mono ?_; rintro e w' ⟨rfl, nx, rfl⟩)
    go_ret
    exact ⟨rfl, sk9⟩
  · have e1 := decide_eq_false h1
    rw [e1]
    go_enter Tryz.func47, Tryz.ntmps47
    go_wp2_with (go_at_call 92; refine (plus_post (lsty_is hs hB)).mono ?_; rintro e w' ⟨rfl, nx, rfl⟩)
    go_ret
    exact ⟨rfl, sk9⟩

theorem mat_at (m : Mt) {b : Bool} (h : mayM m = b) (w : World) : Calls Tryz.prog 94 #[.agg (mtL m).toArray] w fun e w' => e = .returned (.int .i64 (if b then 0 else 20)) ∧ Below w.heap.size w w' := by
  subst h
  obtain ⟨⟨⟨a, b, c⟩, ⟨d, o, f⟩, ⟨g, u, i⟩⟩, ⟨p, q, r⟩⟩ := m
  exact checkMat_calls a b c d o f g u i p q r w

theorem vec_at (v : V3) {b : Bool} (h : all3 v 4096 = b) (w : World) : Calls Tryz.prog 95 #[.agg (v3L v).toArray] w fun e w' => e = .returned (.int .i64 (if b then 0 else 20)) ∧ Below w.heap.size w w' := by
  subst h
  obtain ⟨a, b, c⟩ := v
  exact check_calls2 a b c w

theorem far_is {ao : Option Addr} {n cap : Nat} {l : List Int} {w : World} {b : Bool} (h : distOk l = b) (hl : Lay fI w ao n l) (hn : n ≤ 9223372036854775807) :
    Calls Tryz.prog 96 #[.slice ao n cap] w fun e w' => e = .returned (.bool b) ∧ ∃ y, w' = plus w y := h ▸ far_calls ao n cap l w hl hn

set_option maxRecDepth 100000 in
set_option maxHeartbeats 4000000 in
theorem nmb_calls (ga ka na ma ta : Option Addr) (gn gc kn kc nn nc mn mc tn tc : Nat) (r0 r1 : Int) (h : NH) (n : Nd) (w : World) (hN : NodeAt w h n) : Calls Tryz.prog 50 #[.agg #[.slice ga gn gc, .slice ka kn kc, .slice na nn nc, .slice ma mn mc, .slice ta tn tc, .int .i64 r0, .int .i64 r1], vN h] w fun e w' => e = .returned (.bool (nmb mn n)) ∧ ∃ y, w' = plus w y := by
  show Calls Tryz.prog 50 #[.agg #[.slice ga gn gc, .slice ka kn kc, .slice na nn nc, .slice ma mn mc, .slice ta tn tc, .int .i64 r0, .int .i64 r1], .agg (fN h).toArray] w fun e w' => e = .returned (.bool (nmb mn n)) ∧ ∃ y, w' = plus w y
  have hf := hN.f
  have hmt := mt_drop h
  have hv3 := v3_drop h
  have hkind := kind_at h
  have hfar := far_at h
  have hme : (fN h)[18]? = some (.int .i64 h.f.mesh) := rfl
  unfold nmb
  rw [← hf]
  obtain ⟨kd, hk⟩ : ∃ k, h.f.kind = k := ⟨_, rfl⟩
  rw [hk] at hkind ⊢
  obtain ⟨cs, hcs⟩ : ∃ cs, fN h = cs := ⟨_, rfl⟩
  rw [hcs] at hmt hv3 hkind hfar hme ⊢
  have hc : cs.length = 33 := by rw [← hcs]; rfl
  obtain ⟨b, hb⟩ : ∃ b, w.heap.size = b := ⟨_, rfl⟩
  clear hcs hf hk
  obtain ⟨v, hv⟩ : ∃ v, (if kd = 1 ∨ kd = 3 then true else if kd = 2 then mayM h.f.m else if kd = 4 then all3 h.f.cen 4096 && distOk n.far else if kd = 5 then decide (0 ≤ h.f.mesh ∧ h.f.mesh < (mn : Int)) else false) = v := ⟨_, rfl⟩
  rw [hv]
  replace hv := Hush9.mk hv
  go_enter Tryz.func50, Tryz.ntmps50
  go_upto_region 1 with fail
  refine name_w (fun w' => (∃ y, w' = plus w y) ∧ w'.heap[b]? = some (.cells #[.slice ga gn gc, .slice ka kn kc, .slice na nn nc, .slice ma mn mc, .slice ta tn tc, .int .i64 r0, .int .i64 r1] 34) ∧ w'.heap[b + 1]? = some (.cells cs.toArray 56)) ⟨sk9, hb ▸ blk_old (blk_new2 _ _), by rw [← hb, ← size_alloc w]; exact blk_new2 _ _⟩ ?_
  try simp only [hb]
  rintro w1 ⟨x1, k0, k1⟩
  have p0 := cell_of k1 hkind
  have p17 := cell_of k1 hfar
  have p18 := cell_of k1 hme
  have r2 := cell_blk (i := 3) k0 rfl
  have l1 := blk_lt k1
  have hl1 := hN.lay.ex x1
  have hle := hN.le
  by_cases h1 : kd = 1
  · subst h1
    go_wp2_with fail
    go_ret
    exact ⟨by rw [← hv.it]; simp , ex_trans x1 sk9⟩
  have d1 : (kd == 1) = false := by rw [beq_eq_false_iff_ne]; exact h1
  by_cases h3 : kd = 3
  · subst h3
    go_wp2_with fail
    go_ret
    exact ⟨by rw [← hv.it]; simp , ex_trans x1 sk9⟩
  have d3 : (kd == 3) = false := by rw [beq_eq_false_iff_ne]; exact h3
  by_cases h2 : kd = 2
  · subst h2
    cases hm : mayM h.f.m
    · go_wp2_with (first | (refine wpList_load_part rfl 45 _ rfl (b + 1) 1 rfl (mtL h.f.m) _ (fun j v hv => cell_of k1 (hmt j v hv)) Tryz.underlying45 rfl (by kernel_rfl) ?_) | (go_at_call 94; refine (plus_post (mat_at h.f.m hm _)).mono ?_; rintro e w' ⟨rfl, nx, rfl⟩))
      go_ret
      exact ⟨by rw [← hv.it]; simp [hm], ex_trans x1 sk9⟩
    · go_wp2_with (first | (refine wpList_load_part rfl 45 _ rfl (b + 1) 1 rfl (mtL h.f.m) _ (fun j v hv => cell_of k1 (hmt j v hv)) Tryz.underlying45 rfl (by kernel_rfl) ?_) | (go_at_call 94; refine (plus_post (mat_at h.f.m hm _)).mono ?_; rintro e w' ⟨rfl, nx, rfl⟩))
      go_ret
      exact ⟨by rw [← hv.it]; simp [hm], ex_trans x1 sk9⟩
  have d2 : (kd == 2) = false := by rw [beq_eq_false_iff_ne]; exact h2
  by_cases h4 : kd = 4
  · subst h4
    cases hm : all3 h.f.cen 4096
    · go_wp2_with (first | (refine wpList_load_part rfl 43 _ rfl (b + 1) 14 rfl (v3L h.f.cen) _ (fun j v hv => cell_of k1 (hv3 j v hv)) Tryz.underlying43 rfl (by kernel_rfl) ?_) | (go_at_call 95; refine (plus_post (vec_at h.f.cen hm _)).mono ?_; rintro e w' ⟨rfl, nx, rfl⟩) | (go_at_call 96; refine (far_is hd (hl1.ex sk9) hle).mono ?_; rintro e w' ⟨rfl, nx, rfl⟩))
      go_ret
      exact ⟨by rw [← hv.it]; simp [hm], ex_trans x1 sk9⟩
    · cases hd : distOk n.far
      · go_wp2_with (first | (refine wpList_load_part rfl 43 _ rfl (b + 1) 14 rfl (v3L h.f.cen) _ (fun j v hv => cell_of k1 (hv3 j v hv)) Tryz.underlying43 rfl (by kernel_rfl) ?_) | (go_at_call 95; refine (plus_post (vec_at h.f.cen hm _)).mono ?_; rintro e w' ⟨rfl, nx, rfl⟩) | (go_at_call 96; refine (far_is hd (hl1.ex sk9) hle).mono ?_; rintro e w' ⟨rfl, nx, rfl⟩))
        go_ret
        exact ⟨by rw [← hv.it]; simp [hm, hd], ex_trans x1 sk9⟩
      · go_wp2_with (first | (refine wpList_load_part rfl 43 _ rfl (b + 1) 14 rfl (v3L h.f.cen) _ (fun j v hv => cell_of k1 (hv3 j v hv)) Tryz.underlying43 rfl (by kernel_rfl) ?_) | (go_at_call 95; refine (plus_post (vec_at h.f.cen hm _)).mono ?_; rintro e w' ⟨rfl, nx, rfl⟩) | (go_at_call 96; refine (far_is hd (hl1.ex sk9) hle).mono ?_; rintro e w' ⟨rfl, nx, rfl⟩))
        go_ret
        exact ⟨by rw [← hv.it]; simp [hm, hd], ex_trans x1 sk9⟩
  have d4 : (kd == 4) = false := by rw [beq_eq_false_iff_ne]; exact h4
  by_cases h5 : kd = 5
  · subst h5
    by_cases m0 : 0 ≤ h.f.mesh
    · have e0 := decide_eq_true m0
      by_cases m1 : h.f.mesh < (mn : Int)
      · have e1 := decide_eq_true m1
        go_wp2_with fail
        go_ret
        exact ⟨by rw [← hv.it]; simp [m0, m1], ex_trans x1 sk9⟩
      · have e1 := decide_eq_false m1
        go_wp2_with fail
        go_ret
        exact ⟨by rw [← hv.it]; simp; omega, ex_trans x1 sk9⟩
    · have m0' : h.f.mesh < 0 := by omega
      have e0 := decide_eq_false m0
      go_wp2_with fail
      go_ret
      exact ⟨by rw [← hv.it]; simp; omega, ex_trans x1 sk9⟩
  have d5 : (kd == 5) = false := by rw [beq_eq_false_iff_ne]; exact h5
  go_wp2_with fail
  go_ret
  exact ⟨by rw [← hv.it]; simp [h1, h2, h3, h4, h5], ex_trans x1 sk9⟩

end

section


open Go.RowKit Go.ChangeShapes Go.WideShapes Go.ChangeAt

set_option linter.unusedSimpArgs false

set_option linter.unusedVariables false

attribute [local go_sem] plus_size plus_drew dn_set dn_alloc dn_plus plus_dn cell_plus frozen_plus set_plus cell_alloc frozen_alloc set_alloc

theorem styMay_is {ga ka na ma ta : Option Addr} {gn gc kn kc nn nc mn mc tn tc : Nat} {r0 r1 : Int} {y : Sy} (hB : SyB y) {w : World} {b : Bool} (h : styMay tn y = b) : Calls Tryz.prog 47 #[.agg #[.slice ga gn gc, .slice ka kn kc, .slice na nn nc, .slice ma mn mc, .slice ta tn tc, .int .i64 r0, .int .i64 r1], .agg (syL y).toArray] w fun e w' => e = .returned (.bool b) ∧ ∃ y, w' = plus w y := h ▸ styMay_calls ga ka na ma ta gn gc kn kc nn nc mn mc tn tc r0 r1 y hB w

theorem nmb_is {ga ka na ma ta : Option Addr} {gn gc kn kc nn nc mn mc tn tc : Nat} {r0 r1 : Int} {h : NH} {n : Nd} {w : World} (hN : NodeAt w h n) {b : Bool} (hb : nmb mn n = b) : Calls Tryz.prog 50 #[.agg #[.slice ga gn gc, .slice ka kn kc, .slice na nn nc, .slice ma mn mc, .slice ta tn tc, .int .i64 r0, .int .i64 r1], vN h] w fun e w' => e = .returned (.bool b) ∧ ∃ y, w' = plus w y := hb ▸ nmb_calls ga ka na ma ta gn gc kn kc nn nc mn mc tn tc r0 r1 h n w hN

set_option maxRecDepth 100000 in
set_option maxHeartbeats 4000000 in
theorem lcheckNd_calls (ga ka na ma ta : Option Addr) (gn gc kn kc nn nc mn mc tn tc : Nat) (r0 r1 : Int) (h : NH) (n : Nd) (w : World) (hN : NodeAt w h n) (s1 : h.n ≤ 10000) : Calls Tryz.prog 17 #[.agg #[.slice ga gn gc, .slice ka kn kc, .slice na nn nc, .slice ma mn mc, .slice ta tn tc, .int .i64 r0, .int .i64 r1], vN h] w fun e w' => e = .returned (.int .i64 (if mayNd mn tn n then 0 else 8)) ∧ ∃ y, w' = plus w y := by
  show Calls Tryz.prog 17 #[.agg #[.slice ga gn gc, .slice ka kn kc, .slice na nn nc, .slice ma mn mc, .slice ta tn tc, .int .i64 r0, .int .i64 r1], .agg (fN h).toArray] w fun e w' => e = .returned (.int .i64 (if mayNd mn tn n then 0 else 8)) ∧ ∃ y, w' = plus w y
  have hN2 := namedNd_at hN
  have s2 : (namedH h).n ≤ 10000 := by unfold namedH; split <;> simp [s1]
  have hB : SyB h.f.sty := by rw [hN.f]; exact hN.b.sty
  have hr := mayNd_named (nm := mn) (nt := tn) (n := n) (by rw [← hN.f]; exact hB.s1.1)
  have hsty := sty_drop h
  rw [← hN.f] at hr
  obtain ⟨b1, hb1⟩ : ∃ b, styMay tn h.f.sty = b := ⟨_, rfl⟩
  obtain ⟨b2, hb2⟩ : ∃ b, sameNd n (namedNd n) = b := ⟨_, rfl⟩
  obtain ⟨b3, hb3⟩ : ∃ b, nmb mn n = b := ⟨_, rfl⟩
  rw [hb1, hb2, hb3] at hr
  rw [hr]
  clear hr
  obtain ⟨b, hb⟩ : ∃ b, w.heap.size = b := ⟨_, rfl⟩
  go_enter Tryz.func17, Tryz.ntmps17
  go_upto_region 1 with fail
  refine name_w (fun w' => (∃ y, w' = plus w y) ∧ w'.heap[b]? = some (.cells #[.slice ga gn gc, .slice ka kn kc, .slice na nn nc, .slice ma mn mc, .slice ta tn tc, .int .i64 r0, .int .i64 r1] 34) ∧ w'.heap[b + 1]? = some (.cells (fN h).toArray 56)) ⟨sk9, hb ▸ blk_old (blk_new2 _ _), by rw [← hb, ← size_alloc w]; exact blk_new2 _ _⟩ ?_
  try simp only [hb]
  rintro w1 ⟨x1, k0, k1⟩
  have c0 := cell_blk (i := 0) k0 rfl
  have c1 := cell_blk (i := 1) k0 rfl
  have c2 := cell_blk (i := 2) k0 rfl
  have c3 := cell_blk (i := 3) k0 rfl
  have c4 := cell_blk (i := 4) k0 rfl
  have c5 := cell_blk (i := 5) k0 rfl
  have c6 := cell_blk (i := 6) k0 rfl
  have hNa := hN.ex x1
  have hNb := hN2.ex x1
  replace hsty := Hush9.mk hsty
  have l1 := blk_lt k1
  cases b1
  · refine region_plus (by kernel_rfl) (by kernel_rfl) ?_
    (repeat (first | go_big_quiet_skip | (refine wpQuiet_load_guarded 54 _ rfl (b + 1) 19 rfl (syL h.f.sty) _ (fun w' hw j v hj => cell_ex hw (cell_of k1 (hsty.it j v hj))) Tryz.underlying54 rfl (by kernel_rfl) (by kernel_rfl) ?_; simp only [Act.put, List.setIfInBounds_toArray, List.set_cons_succ, List.set_cons_zero]) | (refine wpQuiet_load_guarded 56 _ rfl (b + 1) 0 rfl (fN h) _ (fun w' hw j v hj => cell_ex hw (by rw [Nat.zero_add]; exact cell_of k1 hj)) Tryz.underlying56 rfl (by kernel_rfl) (by kernel_rfl) ?_; simp only [Act.put, List.setIfInBounds_toArray, List.set_cons_succ, List.set_cons_zero]) | go_big_quiet_step (first | (go_at_call 47; exact q9_of (styMay_is hB hb1)) | (go_at_call 49; exact q9_of (named_calls h _)) | (go_at_call 48; exact q9_of (lsameNd_at (hNa.ex sk9) (hNb.ex sk9) s1 s2 hb2)) | (go_at_call 50; exact q9_of (nmb_is (hNa.ex sk9) hb3)))))
    refine wpQuiet_nil ?_
    rintro _ ⟨x2, rfl⟩
    go_wp2
    go_ret
    exact ⟨rfl, ex_trans x1 sk9⟩
  cases b2
  · refine region_plus (by kernel_rfl) (by kernel_rfl) ?_
    (repeat (first | go_big_quiet_skip | (refine wpQuiet_load_guarded 54 _ rfl (b + 1) 19 rfl (syL h.f.sty) _ (fun w' hw j v hj => cell_ex hw (cell_of k1 (hsty.it j v hj))) Tryz.underlying54 rfl (by kernel_rfl) (by kernel_rfl) ?_; simp only [Act.put, List.setIfInBounds_toArray, List.set_cons_succ, List.set_cons_zero]) | (refine wpQuiet_load_guarded 56 _ rfl (b + 1) 0 rfl (fN h) _ (fun w' hw j v hj => cell_ex hw (by rw [Nat.zero_add]; exact cell_of k1 hj)) Tryz.underlying56 rfl (by kernel_rfl) (by kernel_rfl) ?_; simp only [Act.put, List.setIfInBounds_toArray, List.set_cons_succ, List.set_cons_zero]) | go_big_quiet_step (first | (go_at_call 47; exact q9_of (styMay_is hB hb1)) | (go_at_call 49; exact q9_of (named_calls h _)) | (go_at_call 48; exact q9_of (lsameNd_at (hNa.ex sk9) (hNb.ex sk9) s1 s2 hb2)) | (go_at_call 50; exact q9_of (nmb_is (hNa.ex sk9) hb3)))))
    refine wpQuiet_nil ?_
    rintro _ ⟨x2, rfl⟩
    go_wp2
    go_ret
    exact ⟨rfl, ex_trans x1 sk9⟩
  cases b3
  · refine region_plus (by kernel_rfl) (by kernel_rfl) ?_
    (repeat (first | go_big_quiet_skip | (refine wpQuiet_load_guarded 54 _ rfl (b + 1) 19 rfl (syL h.f.sty) _ (fun w' hw j v hj => cell_ex hw (cell_of k1 (hsty.it j v hj))) Tryz.underlying54 rfl (by kernel_rfl) (by kernel_rfl) ?_; simp only [Act.put, List.setIfInBounds_toArray, List.set_cons_succ, List.set_cons_zero]) | (refine wpQuiet_load_guarded 56 _ rfl (b + 1) 0 rfl (fN h) _ (fun w' hw j v hj => cell_ex hw (by rw [Nat.zero_add]; exact cell_of k1 hj)) Tryz.underlying56 rfl (by kernel_rfl) (by kernel_rfl) ?_; simp only [Act.put, List.setIfInBounds_toArray, List.set_cons_succ, List.set_cons_zero]) | go_big_quiet_step (first | (go_at_call 47; exact q9_of (styMay_is hB hb1)) | (go_at_call 49; exact q9_of (named_calls h _)) | (go_at_call 48; exact q9_of (lsameNd_at (hNa.ex sk9) (hNb.ex sk9) s1 s2 hb2)) | (go_at_call 50; exact q9_of (nmb_is (hNa.ex sk9) hb3)))))
    refine wpQuiet_nil ?_
    rintro _ ⟨x2, rfl⟩
    go_wp2
    go_ret
    exact ⟨rfl, ex_trans x1 sk9⟩
  · refine region_plus (by kernel_rfl) (by kernel_rfl) ?_
    (repeat (first | go_big_quiet_skip | (refine wpQuiet_load_guarded 54 _ rfl (b + 1) 19 rfl (syL h.f.sty) _ (fun w' hw j v hj => cell_ex hw (cell_of k1 (hsty.it j v hj))) Tryz.underlying54 rfl (by kernel_rfl) (by kernel_rfl) ?_; simp only [Act.put, List.setIfInBounds_toArray, List.set_cons_succ, List.set_cons_zero]) | (refine wpQuiet_load_guarded 56 _ rfl (b + 1) 0 rfl (fN h) _ (fun w' hw j v hj => cell_ex hw (by rw [Nat.zero_add]; exact cell_of k1 hj)) Tryz.underlying56 rfl (by kernel_rfl) (by kernel_rfl) ?_; simp only [Act.put, List.setIfInBounds_toArray, List.set_cons_succ, List.set_cons_zero]) | go_big_quiet_step (first | (go_at_call 47; exact q9_of (styMay_is hB hb1)) | (go_at_call 49; exact q9_of (named_calls h _)) | (go_at_call 48; exact q9_of (lsameNd_at (hNa.ex sk9) (hNb.ex sk9) s1 s2 hb2)) | (go_at_call 50; exact q9_of (nmb_is (hNa.ex sk9) hb3)))))
    refine wpQuiet_nil ?_
    rintro _ ⟨x2, rfl⟩
    go_wp2
    go_ret
    exact ⟨rfl, ex_trans x1 sk9⟩

theorem lcheckNd_is {ga ka na ma ta : Option Addr} {gn gc kn kc nn nc mn mc tn tc : Nat} {r0 r1 : Int} {h : NH} {n : Nd} {w : World} (hN : NodeAt w h n) (s1 : h.n ≤ 10000) {b : Bool} (hb : mayNd mn tn n = b) : Calls Tryz.prog 17 #[.agg #[.slice ga gn gc, .slice ka kn kc, .slice na nn nc, .slice ma mn mc, .slice ta tn tc, .int .i64 r0, .int .i64 r1], vN h] w fun e w' => e = .returned (.int .i64 (if b then 0 else 8)) ∧ ∃ y, w' = plus w y := hb ▸ lcheckNd_calls ga ka na ma ta gn gc kn kc nn nc mn mc tn tc r0 r1 h n w hN s1

end

end Go.Proofs.YtcekcihijdipoaaGreat
