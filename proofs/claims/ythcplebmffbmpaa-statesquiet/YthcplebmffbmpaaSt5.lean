/- What states.Under gives. -/
import Derived.Test.YthcplebmffbmpaaSt4
namespace Go.Proofs.Ythcplebmffbmpaa
open Go.RowKit Go.ChangeShapes Go.WideShapes Go.ChangeAt
set_option linter.unusedSimpArgs false
set_option linter.unusedVariables false
attribute [local go_sem] plus_size plus_drew dn_set dn_alloc dn_plus plus_dn cell_plus frozen_plus set_plus cell_alloc frozen_alloc set_alloc

attribute [local go_sem] eq4_refl eq5_refl

attribute [local go_sem] col_22

attribute [local go_sem] col_23

attribute [local go_sem] col9_22

attribute [local go_sem] col9_23

attribute [local go_sem] col8_22

attribute [local go_sem] col8_23

attribute [local go_sem] kep_37

attribute [local go_sem] kep9_37

attribute [local go_sem] kep8_37

attribute [local go_sem] larr_29

attribute [local go_sem] larr_53

@[local go_sem] theorem ixg_0 (a b c d e : Value) (w : World) : (Instr.index 59 (.agg #[a, b, c, d, e]) (.int .i64 0)).run Try.prog w = .ok a w := by kernel_rfl

@[local go_sem] theorem ixg_1 (a b c d e : Value) (w : World) : (Instr.index 59 (.agg #[a, b, c, d, e]) (.int .i64 1)).run Try.prog w = .ok b w := by kernel_rfl

@[local go_sem] theorem ixg_2 (a b c d e : Value) (w : World) : (Instr.index 59 (.agg #[a, b, c, d, e]) (.int .i64 2)).run Try.prog w = .ok c w := by kernel_rfl

@[local go_sem] theorem ixg_3 (a b c d e : Value) (w : World) : (Instr.index 59 (.agg #[a, b, c, d, e]) (.int .i64 3)).run Try.prog w = .ok d w := by kernel_rfl

@[local go_sem] theorem ixg_4 (a b c d e : Value) (w : World) : (Instr.index 59 (.agg #[a, b, c, d, e]) (.int .i64 4)).run Try.prog w = .ok e w := by kernel_rfl

/-- an equation that the walk does not see -/
structure Kept (a b : Bool) : Prop where
  out : a = b
theorem made_quiet {i : Ih} {s : Sy} (h : noSay s = true) : made i s = i := by
  simp [noSay] at h
  obtain ⟨h0, h1, h2, h3, h4⟩ := h
  simp [made, madeTo, mk, u0, u1, u2, u3, u4, takes, h0, h1, h2, h3, h4]
theorem say_bits {n : Int} (h : sayOk n = true) : n = 0 ∨ (n ≠ 0 ∧ bits .and .u8 n 4 = 0 ∧ ¬ 4 ≤ n ∧ Kept (bits .and .u8 n 2 != 0) (overs n)) ∨ (n ≠ 0 ∧ bits .and .u8 n 4 = 4 ∧ 4 ≤ n ∧ Kept (bits .and .u8 n 2 != 0) (overs n)) := by
  rcases sayOk_iff.1 h with rfl | rfl | rfl | rfl | rfl
  · exact .inl rfl
  · exact .inr (.inl ⟨by decide, by decide +kernel, by decide, ⟨by decide +kernel⟩⟩)
  · exact .inr (.inl ⟨by decide, by decide +kernel, by decide, ⟨by decide +kernel⟩⟩)
  · exact .inr (.inr ⟨by decide, by decide +kernel, by decide, ⟨by decide +kernel⟩⟩)
  · exact .inr (.inr ⟨by decide, by decide +kernel, by decide, ⟨by decide +kernel⟩⟩)

set_option maxRecDepth 100000 in
set_option maxHeartbeats 8000000 in
theorem under_calls (ur ug ub ua ut uc ui : Int) (ul : Bool) (un : Int) (k0 k1 k2 k3 k4 : Bool) (s0 s1 s2 s3 s4 : Int) (vr vg vb va vt vc vi : Int) (vl : Bool) (vn : Int) (hB : SyB ⟨s0, s1, s2, s3, s4, ⟨vr, vg, vb, va, vt, vc, vi, vl, vn⟩⟩) (w : World) :
    Calls Try.prog 14 #[.agg #[.int .u8 ur, .int .u8 ug, .int .u8 ub, .int .u8 ua, .int .i64 ut, .int .u8 uc, .int .i64 ui, .bool ul, .int .i64 un, .bool k0, .bool k1, .bool k2, .bool k3, .bool k4], .agg #[.int .u8 s0, .int .u8 s1, .int .u8 s2, .int .u8 s3, .int .u8 s4, .int .u8 vr, .int .u8 vg, .int .u8 vb, .int .u8 va, .int .i64 vt, .int .u8 vc, .int .i64 vi, .bool vl, .int .i64 vn]] w fun e w' => e = .returned (.tuple #[.agg #[.int .u8 ((under ⟨⟨ur, ug, ub, ua, ut, uc, ui, ul, un⟩, k0, k1, k2, k3, k4⟩ ⟨s0, s1, s2, s3, s4, ⟨vr, vg, vb, va, vt, vc, vi, vl, vn⟩⟩).l).r, .int .u8 ((under ⟨⟨ur, ug, ub, ua, ut, uc, ui, ul, un⟩, k0, k1, k2, k3, k4⟩ ⟨s0, s1, s2, s3, s4, ⟨vr, vg, vb, va, vt, vc, vi, vl, vn⟩⟩).l).g, .int .u8 ((under ⟨⟨ur, ug, ub, ua, ut, uc, ui, ul, un⟩, k0, k1, k2, k3, k4⟩ ⟨s0, s1, s2, s3, s4, ⟨vr, vg, vb, va, vt, vc, vi, vl, vn⟩⟩).l).b, .int .u8 ((under ⟨⟨ur, ug, ub, ua, ut, uc, ui, ul, un⟩, k0, k1, k2, k3, k4⟩ ⟨s0, s1, s2, s3, s4, ⟨vr, vg, vb, va, vt, vc, vi, vl, vn⟩⟩).l).a, .int .i64 ((under ⟨⟨ur, ug, ub, ua, ut, uc, ui, ul, un⟩, k0, k1, k2, k3, k4⟩ ⟨s0, s1, s2, s3, s4, ⟨vr, vg, vb, va, vt, vc, vi, vl, vn⟩⟩).l).tx, .int .u8 ((under ⟨⟨ur, ug, ub, ua, ut, uc, ui, ul, un⟩, k0, k1, k2, k3, k4⟩ ⟨s0, s1, s2, s3, s4, ⟨vr, vg, vb, va, vt, vc, vi, vl, vn⟩⟩).l).cu, .int .i64 ((under ⟨⟨ur, ug, ub, ua, ut, uc, ui, ul, un⟩, k0, k1, k2, k3, k4⟩ ⟨s0, s1, s2, s3, s4, ⟨vr, vg, vb, va, vt, vc, vi, vl, vn⟩⟩).l).bi, .bool ((under ⟨⟨ur, ug, ub, ua, ut, uc, ui, ul, un⟩, k0, k1, k2, k3, k4⟩ ⟨s0, s1, s2, s3, s4, ⟨vr, vg, vb, va, vt, vc, vi, vl, vn⟩⟩).l).bl, .int .i64 ((under ⟨⟨ur, ug, ub, ua, ut, uc, ui, ul, un⟩, k0, k1, k2, k3, k4⟩ ⟨s0, s1, s2, s3, s4, ⟨vr, vg, vb, va, vt, vc, vi, vl, vn⟩⟩).l).bn, .bool ((under ⟨⟨ur, ug, ub, ua, ut, uc, ui, ul, un⟩, k0, k1, k2, k3, k4⟩ ⟨s0, s1, s2, s3, s4, ⟨vr, vg, vb, va, vt, vc, vi, vl, vn⟩⟩)).k0, .bool ((under ⟨⟨ur, ug, ub, ua, ut, uc, ui, ul, un⟩, k0, k1, k2, k3, k4⟩ ⟨s0, s1, s2, s3, s4, ⟨vr, vg, vb, va, vt, vc, vi, vl, vn⟩⟩)).k1, .bool ((under ⟨⟨ur, ug, ub, ua, ut, uc, ui, ul, un⟩, k0, k1, k2, k3, k4⟩ ⟨s0, s1, s2, s3, s4, ⟨vr, vg, vb, va, vt, vc, vi, vl, vn⟩⟩)).k2, .bool ((under ⟨⟨ur, ug, ub, ua, ut, uc, ui, ul, un⟩, k0, k1, k2, k3, k4⟩ ⟨s0, s1, s2, s3, s4, ⟨vr, vg, vb, va, vt, vc, vi, vl, vn⟩⟩)).k3, .bool ((under ⟨⟨ur, ug, ub, ua, ut, uc, ui, ul, un⟩, k0, k1, k2, k3, k4⟩ ⟨s0, s1, s2, s3, s4, ⟨vr, vg, vb, va, vt, vc, vi, vl, vn⟩⟩)).k4], .int .i64 (underErr ⟨⟨ur, ug, ub, ua, ut, uc, ui, ul, un⟩, k0, k1, k2, k3, k4⟩ ⟨s0, s1, s2, s3, s4, ⟨vr, vg, vb, va, vt, vc, vi, vl, vn⟩⟩)]) ∧ Below w.heap.size w w' := by
  obtain ⟨I, hI⟩ : ∃ I : Ih, I = ⟨⟨ur, ug, ub, ua, ut, uc, ui, ul, un⟩, k0, k1, k2, k3, k4⟩ := ⟨_, rfl⟩
  obtain ⟨S, hS⟩ : ∃ S : Sy, S = ⟨s0, s1, s2, s3, s4, ⟨vr, vg, vb, va, vt, vc, vi, vl, vn⟩⟩ := ⟨_, rfl⟩
  rw [← hI, ← hS]
  cases hL : lookOk ⟨ur, ug, ub, ua, ut, uc, ui, ul, un⟩
  · have e1 : lookErr ⟨ur, ug, ub, ua, ut, uc, ui, ul, un⟩ = 8 := by rw [lookErr, hL]; rfl
    have e2 : under I S = ih0 := by rw [hI, under, underOk, hL]; rfl
    have e3 : underErr I S = 8 := by rw [hI, underErr, underOk, hL]; rfl
    rw [e2, e3]
    clear hL hI hS e2 e3
    go_enter Try.func14, Try.ntmps14
    go_wp2_with (first | (go_at_call 13; refine (plus_post (look_calls _ _ _ _ _ _ _ _ _ _)).mono ?_; rintro e w' ⟨rfl, nx, rfl⟩) | (go_at_call 12; refine (plus_post (sty_calls _ _ _ _ _ _ _ _ _ _ _ _ _ _ hB _)).mono ?_; rintro e w' ⟨rfl, nx, rfl⟩) | (go_at_call 26; refine (plus_post (noSay_calls _ _ _ _ _ _ _ _ _ _ _ _ _ _ _)).mono ?_; rintro e w' ⟨rfl, nx, rfl⟩) | (go_at_call 27; refine (plus_post (things_calls _)).mono ?_; rintro e w' ⟨rfl, nx, rfl⟩))
    exact bodyPost_ret (v := .tuple #[.agg #[.int .u8 0, .int .u8 0, .int .u8 0, .int .u8 0, .int .i64 0, .int .u8 0, .int .i64 0, .bool false, .int .i64 0, .bool false, .bool false, .bool false, .bool false, .bool false], .int .i64 8]) (by simp [results, Try.results14, go_sem, ↓IntWalk.iteOmega]) rfl ⟨rfl, by with_reducible repeat (first | exact Below.refl _ _ | apply ba | apply bp | apply bd | apply bn)⟩
  have e1 : lookErr ⟨ur, ug, ub, ua, ut, uc, ui, ul, un⟩ = 0 := by rw [lookErr, hL]; rfl
  cases hY : styOk ⟨s0, s1, s2, s3, s4, ⟨vr, vg, vb, va, vt, vc, vi, vl, vn⟩⟩
  · have e4 : styErr ⟨s0, s1, s2, s3, s4, ⟨vr, vg, vb, va, vt, vc, vi, vl, vn⟩⟩ = 8 := by rw [styErr, hY]; rfl
    have e2 : under I S = ih0 := by rw [hI, hS, under, underOk, hL, hY]; rfl
    have e3 : underErr I S = 8 := by rw [hI, hS, underErr, underOk, hL, hY]; rfl
    rw [e2, e3]
    clear hL hI hS hY e2 e3
    go_enter Try.func14, Try.ntmps14
    go_wp2_with (first | (go_at_call 13; refine (plus_post (look_calls _ _ _ _ _ _ _ _ _ _)).mono ?_; rintro e w' ⟨rfl, nx, rfl⟩) | (go_at_call 12; refine (plus_post (sty_calls _ _ _ _ _ _ _ _ _ _ _ _ _ _ hB _)).mono ?_; rintro e w' ⟨rfl, nx, rfl⟩) | (go_at_call 26; refine (plus_post (noSay_calls _ _ _ _ _ _ _ _ _ _ _ _ _ _ _)).mono ?_; rintro e w' ⟨rfl, nx, rfl⟩) | (go_at_call 27; refine (plus_post (things_calls _)).mono ?_; rintro e w' ⟨rfl, nx, rfl⟩))
    exact bodyPost_ret (v := .tuple #[.agg #[.int .u8 0, .int .u8 0, .int .u8 0, .int .u8 0, .int .i64 0, .int .u8 0, .int .i64 0, .bool false, .int .i64 0, .bool false, .bool false, .bool false, .bool false, .bool false], .int .i64 8]) (by simp [results, Try.results14, go_sem, ↓IntWalk.iteOmega]) rfl ⟨rfl, by with_reducible repeat (first | exact Below.refl _ _ | apply ba | apply bp | apply bd | apply bn)⟩
  have e4 : styErr ⟨s0, s1, s2, s3, s4, ⟨vr, vg, vb, va, vt, vc, vi, vl, vn⟩⟩ = 0 := by rw [styErr, hY]; rfl
  have e2 : under I S = made I S := by rw [under, underOk, hI, hS, hL, hY]; rfl
  have e3 : underErr I S = 0 := by rw [underErr, underOk, hI, hS, hL, hY]; rfl
  have hs5 : saysOk ⟨s0, s1, s2, s3, s4, ⟨vr, vg, vb, va, vt, vc, vi, vl, vn⟩⟩ = true := by rw [styOk] at hY; exact (Bool.and_eq_true _ _ ▸ hY).1
  rw [e2, e3]
  clear e2 e3 hL hY
  cases hN : noSay ⟨s0, s1, s2, s3, s4, ⟨vr, vg, vb, va, vt, vc, vi, vl, vn⟩⟩
  rotate_left
  · rw [show made I S = I by rw [hS]; exact made_quiet hN, hI]
    clear hI hS hs5
    go_enter Try.func14, Try.ntmps14
    go_wp2_with (first | (go_at_call 13; refine (plus_post (look_calls _ _ _ _ _ _ _ _ _ _)).mono ?_; rintro e w' ⟨rfl, nx, rfl⟩) | (go_at_call 12; refine (plus_post (sty_calls _ _ _ _ _ _ _ _ _ _ _ _ _ _ hB _)).mono ?_; rintro e w' ⟨rfl, nx, rfl⟩) | (go_at_call 26; refine (plus_post (noSay_calls _ _ _ _ _ _ _ _ _ _ _ _ _ _ _)).mono ?_; rintro e w' ⟨rfl, nx, rfl⟩) | (go_at_call 27; refine (plus_post (things_calls _)).mono ?_; rintro e w' ⟨rfl, nx, rfl⟩))
    exact bodyPost_ret (v := .tuple #[.agg #[.int .u8 ur, .int .u8 ug, .int .u8 ub, .int .u8 ua, .int .i64 ut, .int .u8 uc, .int .i64 ui, .bool ul, .int .i64 un, .bool k0, .bool k1, .bool k2, .bool k3, .bool k4], .int .i64 0]) (by simp [results, Try.results14, go_sem, ↓IntWalk.iteOmega]) rfl ⟨rfl, by with_reducible repeat (first | exact Below.refl _ _ | apply ba | apply bp | apply bd | apply bn)⟩
  obtain ⟨y0, y1, y2, y3, y4⟩ := saysOk_iff.1 hs5
  simp only at y0 y1 y2 y3 y4
  clear hs5
  go_enter Try.func14, Try.ntmps14
  go_wp2_with (first | (go_at_call 13; refine (plus_post (look_calls _ _ _ _ _ _ _ _ _ _)).mono ?_; rintro e w' ⟨rfl, nx, rfl⟩) | (go_at_call 12; refine (plus_post (sty_calls _ _ _ _ _ _ _ _ _ _ _ _ _ _ hB _)).mono ?_; rintro e w' ⟨rfl, nx, rfl⟩) | (go_at_call 26; refine (plus_post (noSay_calls _ _ _ _ _ _ _ _ _ _ _ _ _ _ _)).mono ?_; rintro e w' ⟨rfl, nx, rfl⟩) | (go_at_call 27; refine (plus_post (things_calls _)).mono ?_; rintro e w' ⟨rfl, nx, rfl⟩))
  clear e1 e4 hN hB
  go_loopw [28] (fun i wr => ∃ (k : Nat) (kv : Int), k ≤ 5 ∧ kv = k ∧ i = .int .i64 kv ∧ ∃ x, wr = plus (((w.alloc (.cells #[.int .u8 ((madeTo I S k).l).r, .int .u8 ((madeTo I S k).l).g, .int .u8 ((madeTo I S k).l).b, .int .u8 ((madeTo I S k).l).a, .int .i64 ((madeTo I S k).l).tx, .int .u8 ((madeTo I S k).l).cu, .int .i64 ((madeTo I S k).l).bi, .bool ((madeTo I S k).l).bl, .int .i64 ((madeTo I S k).l).bn, .bool ((madeTo I S k)).k0, .bool ((madeTo I S k)).k1, .bool ((madeTo I S k)).k2, .bool ((madeTo I S k)).k3, .bool ((madeTo I S k)).k4] 39)).alloc (.cells #[.int .u8 s0, .int .u8 s1, .int .u8 s2, .int .u8 s3, .int .u8 s4, .int .u8 vr, .int .u8 vg, .int .u8 vb, .int .u8 va, .int .i64 vt, .int .u8 vc, .int .i64 vi, .bool vl, .int .i64 vn] 31)).alloc (.cells #[.int .u8 0, .int .u8 0, .int .u8 0, .int .u8 0, .int .i64 0, .int .u8 0, .int .i64 0, .bool false, .int .i64 0, .bool false, .bool false, .bool false, .bool false, .bool false] 39)) x) (fun i _ => 5 - (intOf i).toNat)
  case atStart => exact ⟨0, 0, by omega, rfl, rfl, by rw [show madeTo I S 0 = ⟨⟨ur, ug, ub, ua, ut, uc, ui, ul, un⟩, k0, k1, k2, k3, k4⟩ from hI]; exact (by with_reducible repeat (first | exact ex_refl _ | exact ex_more | apply ex_alloc | apply ex_plus | apply ex_drew | apply ex_drewN))⟩
  case round =>
    obtain ⟨k, kv, hk, hkv, rfl, x, rfl⟩ := hrel
    rcases (show k = 0 ∨ k = 1 ∨ k = 2 ∨ k = 3 ∨ k = 4 ∨ k = 5 by omega) with rfl | rfl | rfl | rfl | rfl | rfl
    · obtain rfl : kv = 0 := by omega
      obtain ⟨⟨⟨jr, jg, jb, ja, jt, jc, ji, jl, jn⟩, j0, j1, j2, j3, j4⟩, hJ⟩ : ∃ J, madeTo I S 0 = J := ⟨_, rfl⟩
      rw [hJ]
      simp only
      rcases say_bits y0 with h1 | ⟨h1, h2, h3, h4⟩ | ⟨h1, h2, h3, h4⟩
      · · skip
          have e : madeTo I S 1 = ⟨⟨jr, jg, jb, ja, jt, jc, ji, jl, jn⟩, j0, j1, j2, j3, j4⟩ := by
            show mk (madeTo I S 0) S 0 = _
            rw [hJ, hS]
            simp [mk, u0, takes, h1]
          clear hS hkv hk hJ hI y0 y1 y2 y3 y4
          subst h1
          go_wp2
          go_roundw
          case rel => exact ⟨1, 1, by omega, rfl, by go_num, by simp only [e]; exact (by with_reducible repeat (first | exact ex_refl _ | exact ex_more | apply ex_alloc | apply ex_plus | apply ex_drew | apply ex_drewN))⟩
          case measure => simp [intOf]
      · cases j0
        · skip
          have e : madeTo I S 1 = ⟨⟨vr, vg, vb, va, jt, jc, ji, jl, jn⟩, overs s0, j1, j2, j3, j4⟩ := by
            show mk (madeTo I S 0) S 0 = _
            rw [hJ, hS]
            simp [mk, u0, takes, h1, h3]
          clear hS hkv hk hJ hI y0 y1 y2 y3 y4
          go_wp2_with (first | (go_at_call 31; refine (plus_of (withColor_calls _ _ _ _ _ _ _ _ _ _ _ _ _ _ _ _ _ _ _)).mono ?_; rintro e w' ⟨rfl, nx, rfl⟩) | (go_at_call 32; refine (plus_of (withTexture_calls _ _ _ _ _ _ _ _ _ _ _ _ _ _ _ _ _ _ _)).mono ?_; rintro e w' ⟨rfl, nx, rfl⟩) | (go_at_call 33; refine (plus_of (withCull_calls _ _ _ _ _ _ _ _ _ _ _ _ _ _ _ _ _ _ _)).mono ?_; rintro e w' ⟨rfl, nx, rfl⟩) | (go_at_call 34; refine (plus_of (withBias_calls _ _ _ _ _ _ _ _ _ _ _ _ _ _ _ _ _ _ _)).mono ?_; rintro e w' ⟨rfl, nx, rfl⟩) | (go_at_call 35; refine (plus_of (withBlend_calls _ _ _ _ _ _ _ _ _ _ _ _ _ _ _ _ _ _ _)).mono ?_; rintro e w' ⟨rfl, nx, rfl⟩))
          go_roundw
          case rel => exact ⟨1, 1, by omega, rfl, by go_num, by simp only [e, ← h4.out]; exact (by with_reducible repeat (first | exact ex_refl _ | exact ex_more | apply ex_alloc | apply ex_plus | apply ex_drew | apply ex_drewN))⟩
          case measure => simp [intOf]
        · skip
          have e : madeTo I S 1 = ⟨⟨jr, jg, jb, ja, jt, jc, ji, jl, jn⟩, true, j1, j2, j3, j4⟩ := by
            show mk (madeTo I S 0) S 0 = _
            rw [hJ, hS]
            simp [mk, u0, takes, h1, h3]
          clear hS hkv hk hJ hI y0 y1 y2 y3 y4
          go_wp2
          go_roundw
          case rel => exact ⟨1, 1, by omega, rfl, by go_num, by simp only [e]; exact (by with_reducible repeat (first | exact ex_refl _ | exact ex_more | apply ex_alloc | apply ex_plus | apply ex_drew | apply ex_drewN))⟩
          case measure => simp [intOf]
      · cases j0
        all_goals
          have e : madeTo I S 1 = ⟨⟨vr, vg, vb, va, jt, jc, ji, jl, jn⟩, overs s0, j1, j2, j3, j4⟩ := by
            show mk (madeTo I S 0) S 0 = _
            rw [hJ, hS]
            simp [mk, u0, takes, h1, h3]
          clear hS hkv hk hJ hI y0 y1 y2 y3 y4
          go_wp2_with (first | (go_at_call 31; refine (plus_of (withColor_calls _ _ _ _ _ _ _ _ _ _ _ _ _ _ _ _ _ _ _)).mono ?_; rintro e w' ⟨rfl, nx, rfl⟩) | (go_at_call 32; refine (plus_of (withTexture_calls _ _ _ _ _ _ _ _ _ _ _ _ _ _ _ _ _ _ _)).mono ?_; rintro e w' ⟨rfl, nx, rfl⟩) | (go_at_call 33; refine (plus_of (withCull_calls _ _ _ _ _ _ _ _ _ _ _ _ _ _ _ _ _ _ _)).mono ?_; rintro e w' ⟨rfl, nx, rfl⟩) | (go_at_call 34; refine (plus_of (withBias_calls _ _ _ _ _ _ _ _ _ _ _ _ _ _ _ _ _ _ _)).mono ?_; rintro e w' ⟨rfl, nx, rfl⟩) | (go_at_call 35; refine (plus_of (withBlend_calls _ _ _ _ _ _ _ _ _ _ _ _ _ _ _ _ _ _ _)).mono ?_; rintro e w' ⟨rfl, nx, rfl⟩))
          go_roundw
          case rel => exact ⟨1, 1, by omega, rfl, by go_num, by simp only [e, ← h4.out]; exact (by with_reducible repeat (first | exact ex_refl _ | exact ex_more | apply ex_alloc | apply ex_plus | apply ex_drew | apply ex_drewN))⟩
          case measure => simp [intOf]
    · obtain rfl : kv = 1 := by omega
      obtain ⟨⟨⟨jr, jg, jb, ja, jt, jc, ji, jl, jn⟩, j0, j1, j2, j3, j4⟩, hJ⟩ : ∃ J, madeTo I S 1 = J := ⟨_, rfl⟩
      rw [hJ]
      simp only
      rcases say_bits y1 with h1 | ⟨h1, h2, h3, h4⟩ | ⟨h1, h2, h3, h4⟩
      · · skip
          have e : madeTo I S 2 = ⟨⟨jr, jg, jb, ja, jt, jc, ji, jl, jn⟩, j0, j1, j2, j3, j4⟩ := by
            show mk (madeTo I S 1) S 1 = _
            rw [hJ, hS]
            simp [mk, u1, takes, h1]
          clear hS hkv hk hJ hI y0 y1 y2 y3 y4
          subst h1
          go_wp2
          go_roundw
          case rel => exact ⟨2, 2, by omega, rfl, by go_num, by simp only [e]; exact (by with_reducible repeat (first | exact ex_refl _ | exact ex_more | apply ex_alloc | apply ex_plus | apply ex_drew | apply ex_drewN))⟩
          case measure => simp [intOf]
      · cases j1
        · skip
          have e : madeTo I S 2 = ⟨⟨jr, jg, jb, ja, vt, jc, ji, jl, jn⟩, j0, overs s1, j2, j3, j4⟩ := by
            show mk (madeTo I S 1) S 1 = _
            rw [hJ, hS]
            simp [mk, u1, takes, h1, h3]
          clear hS hkv hk hJ hI y0 y1 y2 y3 y4
          go_wp2_with (first | (go_at_call 31; refine (plus_of (withColor_calls _ _ _ _ _ _ _ _ _ _ _ _ _ _ _ _ _ _ _)).mono ?_; rintro e w' ⟨rfl, nx, rfl⟩) | (go_at_call 32; refine (plus_of (withTexture_calls _ _ _ _ _ _ _ _ _ _ _ _ _ _ _ _ _ _ _)).mono ?_; rintro e w' ⟨rfl, nx, rfl⟩) | (go_at_call 33; refine (plus_of (withCull_calls _ _ _ _ _ _ _ _ _ _ _ _ _ _ _ _ _ _ _)).mono ?_; rintro e w' ⟨rfl, nx, rfl⟩) | (go_at_call 34; refine (plus_of (withBias_calls _ _ _ _ _ _ _ _ _ _ _ _ _ _ _ _ _ _ _)).mono ?_; rintro e w' ⟨rfl, nx, rfl⟩) | (go_at_call 35; refine (plus_of (withBlend_calls _ _ _ _ _ _ _ _ _ _ _ _ _ _ _ _ _ _ _)).mono ?_; rintro e w' ⟨rfl, nx, rfl⟩))
          go_roundw
          case rel => exact ⟨2, 2, by omega, rfl, by go_num, by simp only [e, ← h4.out]; exact (by with_reducible repeat (first | exact ex_refl _ | exact ex_more | apply ex_alloc | apply ex_plus | apply ex_drew | apply ex_drewN))⟩
          case measure => simp [intOf]
        · skip
          have e : madeTo I S 2 = ⟨⟨jr, jg, jb, ja, jt, jc, ji, jl, jn⟩, j0, true, j2, j3, j4⟩ := by
            show mk (madeTo I S 1) S 1 = _
            rw [hJ, hS]
            simp [mk, u1, takes, h1, h3]
          clear hS hkv hk hJ hI y0 y1 y2 y3 y4
          go_wp2
          go_roundw
          case rel => exact ⟨2, 2, by omega, rfl, by go_num, by simp only [e]; exact (by with_reducible repeat (first | exact ex_refl _ | exact ex_more | apply ex_alloc | apply ex_plus | apply ex_drew | apply ex_drewN))⟩
          case measure => simp [intOf]
      · cases j1
        all_goals
          have e : madeTo I S 2 = ⟨⟨jr, jg, jb, ja, vt, jc, ji, jl, jn⟩, j0, overs s1, j2, j3, j4⟩ := by
            show mk (madeTo I S 1) S 1 = _
            rw [hJ, hS]
            simp [mk, u1, takes, h1, h3]
          clear hS hkv hk hJ hI y0 y1 y2 y3 y4
          go_wp2_with (first | (go_at_call 31; refine (plus_of (withColor_calls _ _ _ _ _ _ _ _ _ _ _ _ _ _ _ _ _ _ _)).mono ?_; rintro e w' ⟨rfl, nx, rfl⟩) | (go_at_call 32; refine (plus_of (withTexture_calls _ _ _ _ _ _ _ _ _ _ _ _ _ _ _ _ _ _ _)).mono ?_; rintro e w' ⟨rfl, nx, rfl⟩) | (go_at_call 33; refine (plus_of (withCull_calls _ _ _ _ _ _ _ _ _ _ _ _ _ _ _ _ _ _ _)).mono ?_; rintro e w' ⟨rfl, nx, rfl⟩) | (go_at_call 34; refine (plus_of (withBias_calls _ _ _ _ _ _ _ _ _ _ _ _ _ _ _ _ _ _ _)).mono ?_; rintro e w' ⟨rfl, nx, rfl⟩) | (go_at_call 35; refine (plus_of (withBlend_calls _ _ _ _ _ _ _ _ _ _ _ _ _ _ _ _ _ _ _)).mono ?_; rintro e w' ⟨rfl, nx, rfl⟩))
          go_roundw
          case rel => exact ⟨2, 2, by omega, rfl, by go_num, by simp only [e, ← h4.out]; exact (by with_reducible repeat (first | exact ex_refl _ | exact ex_more | apply ex_alloc | apply ex_plus | apply ex_drew | apply ex_drewN))⟩
          case measure => simp [intOf]
    · obtain rfl : kv = 2 := by omega
      obtain ⟨⟨⟨jr, jg, jb, ja, jt, jc, ji, jl, jn⟩, j0, j1, j2, j3, j4⟩, hJ⟩ : ∃ J, madeTo I S 2 = J := ⟨_, rfl⟩
      rw [hJ]
      simp only
      rcases say_bits y2 with h1 | ⟨h1, h2, h3, h4⟩ | ⟨h1, h2, h3, h4⟩
      · · skip
          have e : madeTo I S 3 = ⟨⟨jr, jg, jb, ja, jt, jc, ji, jl, jn⟩, j0, j1, j2, j3, j4⟩ := by
            show mk (madeTo I S 2) S 2 = _
            rw [hJ, hS]
            simp [mk, u2, takes, h1]
          clear hS hkv hk hJ hI y0 y1 y2 y3 y4
          subst h1
          go_wp2
          go_roundw
          case rel => exact ⟨3, 3, by omega, rfl, by go_num, by simp only [e]; exact (by with_reducible repeat (first | exact ex_refl _ | exact ex_more | apply ex_alloc | apply ex_plus | apply ex_drew | apply ex_drewN))⟩
          case measure => simp [intOf]
      · cases j2
        · skip
          have e : madeTo I S 3 = ⟨⟨jr, jg, jb, ja, jt, vc, ji, jl, jn⟩, j0, j1, overs s2, j3, j4⟩ := by
            show mk (madeTo I S 2) S 2 = _
            rw [hJ, hS]
            simp [mk, u2, takes, h1, h3]
          clear hS hkv hk hJ hI y0 y1 y2 y3 y4
          go_wp2_with (first | (go_at_call 31; refine (plus_of (withColor_calls _ _ _ _ _ _ _ _ _ _ _ _ _ _ _ _ _ _ _)).mono ?_; rintro e w' ⟨rfl, nx, rfl⟩) | (go_at_call 32; refine (plus_of (withTexture_calls _ _ _ _ _ _ _ _ _ _ _ _ _ _ _ _ _ _ _)).mono ?_; rintro e w' ⟨rfl, nx, rfl⟩) | (go_at_call 33; refine (plus_of (withCull_calls _ _ _ _ _ _ _ _ _ _ _ _ _ _ _ _ _ _ _)).mono ?_; rintro e w' ⟨rfl, nx, rfl⟩) | (go_at_call 34; refine (plus_of (withBias_calls _ _ _ _ _ _ _ _ _ _ _ _ _ _ _ _ _ _ _)).mono ?_; rintro e w' ⟨rfl, nx, rfl⟩) | (go_at_call 35; refine (plus_of (withBlend_calls _ _ _ _ _ _ _ _ _ _ _ _ _ _ _ _ _ _ _)).mono ?_; rintro e w' ⟨rfl, nx, rfl⟩))
          go_roundw
          case rel => exact ⟨3, 3, by omega, rfl, by go_num, by simp only [e, ← h4.out]; exact (by with_reducible repeat (first | exact ex_refl _ | exact ex_more | apply ex_alloc | apply ex_plus | apply ex_drew | apply ex_drewN))⟩
          case measure => simp [intOf]
        · skip
          have e : madeTo I S 3 = ⟨⟨jr, jg, jb, ja, jt, jc, ji, jl, jn⟩, j0, j1, true, j3, j4⟩ := by
            show mk (madeTo I S 2) S 2 = _
            rw [hJ, hS]
            simp [mk, u2, takes, h1, h3]
          clear hS hkv hk hJ hI y0 y1 y2 y3 y4
          go_wp2
          go_roundw
          case rel => exact ⟨3, 3, by omega, rfl, by go_num, by simp only [e]; exact (by with_reducible repeat (first | exact ex_refl _ | exact ex_more | apply ex_alloc | apply ex_plus | apply ex_drew | apply ex_drewN))⟩
          case measure => simp [intOf]
      · cases j2
        all_goals
          have e : madeTo I S 3 = ⟨⟨jr, jg, jb, ja, jt, vc, ji, jl, jn⟩, j0, j1, overs s2, j3, j4⟩ := by
            show mk (madeTo I S 2) S 2 = _
            rw [hJ, hS]
            simp [mk, u2, takes, h1, h3]
          clear hS hkv hk hJ hI y0 y1 y2 y3 y4
          go_wp2_with (first | (go_at_call 31; refine (plus_of (withColor_calls _ _ _ _ _ _ _ _ _ _ _ _ _ _ _ _ _ _ _)).mono ?_; rintro e w' ⟨rfl, nx, rfl⟩) | (go_at_call 32; refine (plus_of (withTexture_calls _ _ _ _ _ _ _ _ _ _ _ _ _ _ _ _ _ _ _)).mono ?_; rintro e w' ⟨rfl, nx, rfl⟩) | (go_at_call 33; refine (plus_of (withCull_calls _ _ _ _ _ _ _ _ _ _ _ _ _ _ _ _ _ _ _)).mono ?_; rintro e w' ⟨rfl, nx, rfl⟩) | (go_at_call 34; refine (plus_of (withBias_calls _ _ _ _ _ _ _ _ _ _ _ _ _ _ _ _ _ _ _)).mono ?_; rintro e w' ⟨rfl, nx, rfl⟩) | (go_at_call 35; refine (plus_of (withBlend_calls _ _ _ _ _ _ _ _ _ _ _ _ _ _ _ _ _ _ _)).mono ?_; rintro e w' ⟨rfl, nx, rfl⟩))
          go_roundw
          case rel => exact ⟨3, 3, by omega, rfl, by go_num, by simp only [e, ← h4.out]; exact (by with_reducible repeat (first | exact ex_refl _ | exact ex_more | apply ex_alloc | apply ex_plus | apply ex_drew | apply ex_drewN))⟩
          case measure => simp [intOf]
    · obtain rfl : kv = 3 := by omega
      obtain ⟨⟨⟨jr, jg, jb, ja, jt, jc, ji, jl, jn⟩, j0, j1, j2, j3, j4⟩, hJ⟩ : ∃ J, madeTo I S 3 = J := ⟨_, rfl⟩
      rw [hJ]
      simp only
      rcases say_bits y3 with h1 | ⟨h1, h2, h3, h4⟩ | ⟨h1, h2, h3, h4⟩
      · · skip
          have e : madeTo I S 4 = ⟨⟨jr, jg, jb, ja, jt, jc, ji, jl, jn⟩, j0, j1, j2, j3, j4⟩ := by
            show mk (madeTo I S 3) S 3 = _
            rw [hJ, hS]
            simp [mk, u3, takes, h1]
          clear hS hkv hk hJ hI y0 y1 y2 y3 y4
          subst h1
          go_wp2
          go_roundw
          case rel => exact ⟨4, 4, by omega, rfl, by go_num, by simp only [e]; exact (by with_reducible repeat (first | exact ex_refl _ | exact ex_more | apply ex_alloc | apply ex_plus | apply ex_drew | apply ex_drewN))⟩
          case measure => simp [intOf]
      · cases j3
        · skip
          have e : madeTo I S 4 = ⟨⟨jr, jg, jb, ja, jt, jc, vi, jl, jn⟩, j0, j1, j2, overs s3, j4⟩ := by
            show mk (madeTo I S 3) S 3 = _
            rw [hJ, hS]
            simp [mk, u3, takes, h1, h3]
          clear hS hkv hk hJ hI y0 y1 y2 y3 y4
          go_wp2_with (first | (go_at_call 31; refine (plus_of (withColor_calls _ _ _ _ _ _ _ _ _ _ _ _ _ _ _ _ _ _ _)).mono ?_; rintro e w' ⟨rfl, nx, rfl⟩) | (go_at_call 32; refine (plus_of (withTexture_calls _ _ _ _ _ _ _ _ _ _ _ _ _ _ _ _ _ _ _)).mono ?_; rintro e w' ⟨rfl, nx, rfl⟩) | (go_at_call 33; refine (plus_of (withCull_calls _ _ _ _ _ _ _ _ _ _ _ _ _ _ _ _ _ _ _)).mono ?_; rintro e w' ⟨rfl, nx, rfl⟩) | (go_at_call 34; refine (plus_of (withBias_calls _ _ _ _ _ _ _ _ _ _ _ _ _ _ _ _ _ _ _)).mono ?_; rintro e w' ⟨rfl, nx, rfl⟩) | (go_at_call 35; refine (plus_of (withBlend_calls _ _ _ _ _ _ _ _ _ _ _ _ _ _ _ _ _ _ _)).mono ?_; rintro e w' ⟨rfl, nx, rfl⟩))
          go_roundw
          case rel => exact ⟨4, 4, by omega, rfl, by go_num, by simp only [e, ← h4.out]; exact (by with_reducible repeat (first | exact ex_refl _ | exact ex_more | apply ex_alloc | apply ex_plus | apply ex_drew | apply ex_drewN))⟩
          case measure => simp [intOf]
        · skip
          have e : madeTo I S 4 = ⟨⟨jr, jg, jb, ja, jt, jc, ji, jl, jn⟩, j0, j1, j2, true, j4⟩ := by
            show mk (madeTo I S 3) S 3 = _
            rw [hJ, hS]
            simp [mk, u3, takes, h1, h3]
          clear hS hkv hk hJ hI y0 y1 y2 y3 y4
          go_wp2
          go_roundw
          case rel => exact ⟨4, 4, by omega, rfl, by go_num, by simp only [e]; exact (by with_reducible repeat (first | exact ex_refl _ | exact ex_more | apply ex_alloc | apply ex_plus | apply ex_drew | apply ex_drewN))⟩
          case measure => simp [intOf]
      · cases j3
        all_goals
          have e : madeTo I S 4 = ⟨⟨jr, jg, jb, ja, jt, jc, vi, jl, jn⟩, j0, j1, j2, overs s3, j4⟩ := by
            show mk (madeTo I S 3) S 3 = _
            rw [hJ, hS]
            simp [mk, u3, takes, h1, h3]
          clear hS hkv hk hJ hI y0 y1 y2 y3 y4
          go_wp2_with (first | (go_at_call 31; refine (plus_of (withColor_calls _ _ _ _ _ _ _ _ _ _ _ _ _ _ _ _ _ _ _)).mono ?_; rintro e w' ⟨rfl, nx, rfl⟩) | (go_at_call 32; refine (plus_of (withTexture_calls _ _ _ _ _ _ _ _ _ _ _ _ _ _ _ _ _ _ _)).mono ?_; rintro e w' ⟨rfl, nx, rfl⟩) | (go_at_call 33; refine (plus_of (withCull_calls _ _ _ _ _ _ _ _ _ _ _ _ _ _ _ _ _ _ _)).mono ?_; rintro e w' ⟨rfl, nx, rfl⟩) | (go_at_call 34; refine (plus_of (withBias_calls _ _ _ _ _ _ _ _ _ _ _ _ _ _ _ _ _ _ _)).mono ?_; rintro e w' ⟨rfl, nx, rfl⟩) | (go_at_call 35; refine (plus_of (withBlend_calls _ _ _ _ _ _ _ _ _ _ _ _ _ _ _ _ _ _ _)).mono ?_; rintro e w' ⟨rfl, nx, rfl⟩))
          go_roundw
          case rel => exact ⟨4, 4, by omega, rfl, by go_num, by simp only [e, ← h4.out]; exact (by with_reducible repeat (first | exact ex_refl _ | exact ex_more | apply ex_alloc | apply ex_plus | apply ex_drew | apply ex_drewN))⟩
          case measure => simp [intOf]
    · obtain rfl : kv = 4 := by omega
      obtain ⟨⟨⟨jr, jg, jb, ja, jt, jc, ji, jl, jn⟩, j0, j1, j2, j3, j4⟩, hJ⟩ : ∃ J, madeTo I S 4 = J := ⟨_, rfl⟩
      rw [hJ]
      simp only
      rcases say_bits y4 with h1 | ⟨h1, h2, h3, h4⟩ | ⟨h1, h2, h3, h4⟩
      · · skip
          have e : madeTo I S 5 = ⟨⟨jr, jg, jb, ja, jt, jc, ji, jl, jn⟩, j0, j1, j2, j3, j4⟩ := by
            show mk (madeTo I S 4) S 4 = _
            rw [hJ, hS]
            simp [mk, u4, takes, h1]
          clear hS hkv hk hJ hI y0 y1 y2 y3 y4
          subst h1
          go_wp2
          go_roundw
          case rel => exact ⟨5, 5, by omega, rfl, by go_num, by simp only [e]; exact (by with_reducible repeat (first | exact ex_refl _ | exact ex_more | apply ex_alloc | apply ex_plus | apply ex_drew | apply ex_drewN))⟩
          case measure => simp [intOf]
      · cases j4
        · skip
          have e : madeTo I S 5 = ⟨⟨jr, jg, jb, ja, jt, jc, ji, vl, vn⟩, j0, j1, j2, j3, overs s4⟩ := by
            show mk (madeTo I S 4) S 4 = _
            rw [hJ, hS]
            simp [mk, u4, takes, h1, h3]
          clear hS hkv hk hJ hI y0 y1 y2 y3 y4
          go_wp2_with (first | (go_at_call 31; refine (plus_of (withColor_calls _ _ _ _ _ _ _ _ _ _ _ _ _ _ _ _ _ _ _)).mono ?_; rintro e w' ⟨rfl, nx, rfl⟩) | (go_at_call 32; refine (plus_of (withTexture_calls _ _ _ _ _ _ _ _ _ _ _ _ _ _ _ _ _ _ _)).mono ?_; rintro e w' ⟨rfl, nx, rfl⟩) | (go_at_call 33; refine (plus_of (withCull_calls _ _ _ _ _ _ _ _ _ _ _ _ _ _ _ _ _ _ _)).mono ?_; rintro e w' ⟨rfl, nx, rfl⟩) | (go_at_call 34; refine (plus_of (withBias_calls _ _ _ _ _ _ _ _ _ _ _ _ _ _ _ _ _ _ _)).mono ?_; rintro e w' ⟨rfl, nx, rfl⟩) | (go_at_call 35; refine (plus_of (withBlend_calls _ _ _ _ _ _ _ _ _ _ _ _ _ _ _ _ _ _ _)).mono ?_; rintro e w' ⟨rfl, nx, rfl⟩))
          go_roundw
          case rel => exact ⟨5, 5, by omega, rfl, by go_num, by simp only [e, ← h4.out]; exact (by with_reducible repeat (first | exact ex_refl _ | exact ex_more | apply ex_alloc | apply ex_plus | apply ex_drew | apply ex_drewN))⟩
          case measure => simp [intOf]
        · skip
          have e : madeTo I S 5 = ⟨⟨jr, jg, jb, ja, jt, jc, ji, jl, jn⟩, j0, j1, j2, j3, true⟩ := by
            show mk (madeTo I S 4) S 4 = _
            rw [hJ, hS]
            simp [mk, u4, takes, h1, h3]
          clear hS hkv hk hJ hI y0 y1 y2 y3 y4
          go_wp2
          go_roundw
          case rel => exact ⟨5, 5, by omega, rfl, by go_num, by simp only [e]; exact (by with_reducible repeat (first | exact ex_refl _ | exact ex_more | apply ex_alloc | apply ex_plus | apply ex_drew | apply ex_drewN))⟩
          case measure => simp [intOf]
      · cases j4
        all_goals
          have e : madeTo I S 5 = ⟨⟨jr, jg, jb, ja, jt, jc, ji, vl, vn⟩, j0, j1, j2, j3, overs s4⟩ := by
            show mk (madeTo I S 4) S 4 = _
            rw [hJ, hS]
            simp [mk, u4, takes, h1, h3]
          clear hS hkv hk hJ hI y0 y1 y2 y3 y4
          go_wp2_with (first | (go_at_call 31; refine (plus_of (withColor_calls _ _ _ _ _ _ _ _ _ _ _ _ _ _ _ _ _ _ _)).mono ?_; rintro e w' ⟨rfl, nx, rfl⟩) | (go_at_call 32; refine (plus_of (withTexture_calls _ _ _ _ _ _ _ _ _ _ _ _ _ _ _ _ _ _ _)).mono ?_; rintro e w' ⟨rfl, nx, rfl⟩) | (go_at_call 33; refine (plus_of (withCull_calls _ _ _ _ _ _ _ _ _ _ _ _ _ _ _ _ _ _ _)).mono ?_; rintro e w' ⟨rfl, nx, rfl⟩) | (go_at_call 34; refine (plus_of (withBias_calls _ _ _ _ _ _ _ _ _ _ _ _ _ _ _ _ _ _ _)).mono ?_; rintro e w' ⟨rfl, nx, rfl⟩) | (go_at_call 35; refine (plus_of (withBlend_calls _ _ _ _ _ _ _ _ _ _ _ _ _ _ _ _ _ _ _)).mono ?_; rintro e w' ⟨rfl, nx, rfl⟩))
          go_roundw
          case rel => exact ⟨5, 5, by omega, rfl, by go_num, by simp only [e, ← h4.out]; exact (by with_reducible repeat (first | exact ex_refl _ | exact ex_more | apply ex_alloc | apply ex_plus | apply ex_drew | apply ex_drewN))⟩
          case measure => simp [intOf]
    · obtain rfl : kv = 5 := by omega
      rw [show madeTo I S 5 = made I S from rfl]
      clear hS hkv hk hI y0 y1 y2 y3 y4
      go_wp2
      exact bodyPost_ret (v := .tuple #[.agg #[.int .u8 ((made I S).l).r, .int .u8 ((made I S).l).g, .int .u8 ((made I S).l).b, .int .u8 ((made I S).l).a, .int .i64 ((made I S).l).tx, .int .u8 ((made I S).l).cu, .int .i64 ((made I S).l).bi, .bool ((made I S).l).bl, .int .i64 ((made I S).l).bn, .bool ((made I S)).k0, .bool ((made I S)).k1, .bool ((made I S)).k2, .bool ((made I S)).k3, .bool ((made I S)).k4], .int .i64 0]) (by simp [results, Try.results14, go_sem, ↓IntWalk.iteOmega]) rfl ⟨rfl, by with_reducible repeat (first | exact Below.refl _ _ | apply ba | apply bp | apply bd | apply bn)⟩

end Go.Proofs.Ythcplebmffbmpaa
