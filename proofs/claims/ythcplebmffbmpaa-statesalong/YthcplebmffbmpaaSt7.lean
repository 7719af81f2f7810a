/- What dioramaref07.Made gives. -/
import Derived.Test.YthcplebmffbmpaaProg
import Derived.Test.YthcplebmffbmpaaStMath
import Derived.Test.YthcplebmffbmpaaTail
import Derived.Test.YthcplebmffbmpaaFresh
namespace Go.Proofs.Ythcplebmffbmpaa
open Go.RowKit Go.ChangeShapes Go.WideShapes Go.ChangeAt
set_option linter.unusedSimpArgs false
set_option linter.unusedVariables false
attribute [local go_sem] plus_size plus_drew dn_set dn_alloc dn_plus plus_dn cell_plus frozen_plus set_plus cell_alloc frozen_alloc set_alloc

set_option maxRecDepth 100000 in
set_option maxHeartbeats 8000000 in
theorem made_calls (ur ug ub ua ut uc ui : Int) (ul : Bool) (un : Int) (k0 k1 k2 k3 k4 : Bool) (s0 s1 s2 s3 s4 : Int) (vr vg vb va vt vc vi : Int) (vl : Bool) (vn : Int) (hO : saysOk ⟨s0, s1, s2, s3, s4, ⟨vr, vg, vb, va, vt, vc, vi, vl, vn⟩⟩ = true) (w : World) :
    Calls Try.prog 30 #[.agg #[.int .u8 ur, .int .u8 ug, .int .u8 ub, .int .u8 ua, .int .i64 ut, .int .u8 uc, .int .i64 ui, .bool ul, .int .i64 un, .bool k0, .bool k1, .bool k2, .bool k3, .bool k4], .agg #[.int .u8 s0, .int .u8 s1, .int .u8 s2, .int .u8 s3, .int .u8 s4, .int .u8 vr, .int .u8 vg, .int .u8 vb, .int .u8 va, .int .i64 vt, .int .u8 vc, .int .i64 vi, .bool vl, .int .i64 vn]] w fun e w' => e = .returned (.agg #[.int .u8 ((made ⟨⟨ur, ug, ub, ua, ut, uc, ui, ul, un⟩, k0, k1, k2, k3, k4⟩ ⟨s0, s1, s2, s3, s4, ⟨vr, vg, vb, va, vt, vc, vi, vl, vn⟩⟩).l).r, .int .u8 ((made ⟨⟨ur, ug, ub, ua, ut, uc, ui, ul, un⟩, k0, k1, k2, k3, k4⟩ ⟨s0, s1, s2, s3, s4, ⟨vr, vg, vb, va, vt, vc, vi, vl, vn⟩⟩).l).g, .int .u8 ((made ⟨⟨ur, ug, ub, ua, ut, uc, ui, ul, un⟩, k0, k1, k2, k3, k4⟩ ⟨s0, s1, s2, s3, s4, ⟨vr, vg, vb, va, vt, vc, vi, vl, vn⟩⟩).l).b, .int .u8 ((made ⟨⟨ur, ug, ub, ua, ut, uc, ui, ul, un⟩, k0, k1, k2, k3, k4⟩ ⟨s0, s1, s2, s3, s4, ⟨vr, vg, vb, va, vt, vc, vi, vl, vn⟩⟩).l).a, .int .i64 ((made ⟨⟨ur, ug, ub, ua, ut, uc, ui, ul, un⟩, k0, k1, k2, k3, k4⟩ ⟨s0, s1, s2, s3, s4, ⟨vr, vg, vb, va, vt, vc, vi, vl, vn⟩⟩).l).tx, .int .u8 ((made ⟨⟨ur, ug, ub, ua, ut, uc, ui, ul, un⟩, k0, k1, k2, k3, k4⟩ ⟨s0, s1, s2, s3, s4, ⟨vr, vg, vb, va, vt, vc, vi, vl, vn⟩⟩).l).cu, .int .i64 ((made ⟨⟨ur, ug, ub, ua, ut, uc, ui, ul, un⟩, k0, k1, k2, k3, k4⟩ ⟨s0, s1, s2, s3, s4, ⟨vr, vg, vb, va, vt, vc, vi, vl, vn⟩⟩).l).bi, .bool ((made ⟨⟨ur, ug, ub, ua, ut, uc, ui, ul, un⟩, k0, k1, k2, k3, k4⟩ ⟨s0, s1, s2, s3, s4, ⟨vr, vg, vb, va, vt, vc, vi, vl, vn⟩⟩).l).bl, .int .i64 ((made ⟨⟨ur, ug, ub, ua, ut, uc, ui, ul, un⟩, k0, k1, k2, k3, k4⟩ ⟨s0, s1, s2, s3, s4, ⟨vr, vg, vb, va, vt, vc, vi, vl, vn⟩⟩).l).bn, .bool ((made ⟨⟨ur, ug, ub, ua, ut, uc, ui, ul, un⟩, k0, k1, k2, k3, k4⟩ ⟨s0, s1, s2, s3, s4, ⟨vr, vg, vb, va, vt, vc, vi, vl, vn⟩⟩)).k0, .bool ((made ⟨⟨ur, ug, ub, ua, ut, uc, ui, ul, un⟩, k0, k1, k2, k3, k4⟩ ⟨s0, s1, s2, s3, s4, ⟨vr, vg, vb, va, vt, vc, vi, vl, vn⟩⟩)).k1, .bool ((made ⟨⟨ur, ug, ub, ua, ut, uc, ui, ul, un⟩, k0, k1, k2, k3, k4⟩ ⟨s0, s1, s2, s3, s4, ⟨vr, vg, vb, va, vt, vc, vi, vl, vn⟩⟩)).k2, .bool ((made ⟨⟨ur, ug, ub, ua, ut, uc, ui, ul, un⟩, k0, k1, k2, k3, k4⟩ ⟨s0, s1, s2, s3, s4, ⟨vr, vg, vb, va, vt, vc, vi, vl, vn⟩⟩)).k3, .bool ((made ⟨⟨ur, ug, ub, ua, ut, uc, ui, ul, un⟩, k0, k1, k2, k3, k4⟩ ⟨s0, s1, s2, s3, s4, ⟨vr, vg, vb, va, vt, vc, vi, vl, vn⟩⟩)).k4]) ∧ Below w.heap.size w w' := by
  obtain ⟨I, hI⟩ : ∃ I : Ih, I = ⟨⟨ur, ug, ub, ua, ut, uc, ui, ul, un⟩, k0, k1, k2, k3, k4⟩ := ⟨_, rfl⟩
  obtain ⟨S, hS⟩ : ∃ S : Sy, S = ⟨s0, s1, s2, s3, s4, ⟨vr, vg, vb, va, vt, vc, vi, vl, vn⟩⟩ := ⟨_, rfl⟩
  rw [← hI, ← hS]
  obtain ⟨y0, y1, y2, y3, y4⟩ := saysOk_iff.1 hO
  simp only at y0 y1 y2 y3 y4
  clear hO
  go_enter Try.func30, Try.ntmps30
  go_wp2
  go_loopw [5] (fun i wr => ∃ (k : Nat) (kv : Int), k ≤ 5 ∧ kv = k ∧ i = .int .i64 kv ∧ ∃ x, wr = plus (((w.alloc (.cells #[.int .u8 ((madeTo I S k).l).r, .int .u8 ((madeTo I S k).l).g, .int .u8 ((madeTo I S k).l).b, .int .u8 ((madeTo I S k).l).a, .int .i64 ((madeTo I S k).l).tx, .int .u8 ((madeTo I S k).l).cu, .int .i64 ((madeTo I S k).l).bi, .bool ((madeTo I S k).l).bl, .int .i64 ((madeTo I S k).l).bn, .bool ((madeTo I S k)).k0, .bool ((madeTo I S k)).k1, .bool ((madeTo I S k)).k2, .bool ((madeTo I S k)).k3, .bool ((madeTo I S k)).k4] 39)).alloc (.cells #[.int .u8 s0, .int .u8 s1, .int .u8 s2, .int .u8 s3, .int .u8 s4, .int .u8 vr, .int .u8 vg, .int .u8 vb, .int .u8 va, .int .i64 vt, .int .u8 vc, .int .i64 vi, .bool vl, .int .i64 vn] 31)).alloc (.cells #[.int .u8 0, .int .u8 0, .int .u8 0, .int .u8 0, .int .i64 0, .int .u8 0, .int .i64 0, .bool false, .int .i64 0, .bool false, .bool false, .bool false, .bool false, .bool false] 39)) x) (fun i _ => 5 - (intOf i).toNat)
  case atStart => exact ⟨0, 0, by omega, rfl, rfl, by rw [show madeTo I S 0 = ⟨⟨ur, ug, ub, ua, ut, uc, ui, ul, un⟩, k0, k1, k2, k3, k4⟩ from hI]; exact (by with_reducible repeat (first | exact ex_refl _ | exact ex_more | apply ex_alloc | apply ex_plus | apply ex_drew | apply ex_drewN))⟩
  case round =>
    obtain ⟨k, kv, hk, hkv, rfl, x, rfl⟩ := hrel
    rcases (show k = 0 ∨ k = 1 ∨ k = 2 ∨ k = 3 ∨ k = 4 ∨ k = 5 by omega) with rfl | rfl | rfl | rfl | rfl | rfl
    · obtain rfl : kv = 0 := by omega
      obtain ⟨⟨⟨jr, jg, jb, ja, jt, jc, ji, jl, jn⟩, j0, j1, j2, j3, j4⟩, hJ⟩ : ∃ J, madeTo I S 0 = J := ⟨_, rfl⟩
      rw [hJ]
      simp only
      rcases sayOk_iff.1 y0 with h1 | h1 | h1 | h1 | h1
      · skip
        have e : madeTo I S 1 = ⟨⟨jr, jg, jb, ja, jt, jc, ji, jl, jn⟩, j0, j1, j2, j3, j4⟩ := by
          show mk (madeTo I S 0) S 0 = _
          rw [hJ, hS]
          simp [mk, u0, takes, overs, h1]
        clear hS hkv hk hJ hI y0 y1 y2 y3 y4
        subst h1
        go_wp2
        go_roundw
        case rel => exact ⟨1, 1, by omega, rfl, by go_num, by simp only [e]; exact (by with_reducible repeat (first | exact ex_refl _ | exact ex_more | apply ex_alloc | apply ex_plus | apply ex_drew | apply ex_drewN))⟩
        case measure => simp [intOf]
      · cases j0
        · skip
          have e : madeTo I S 1 = ⟨⟨vr, vg, vb, va, jt, jc, ji, jl, jn⟩, false, j1, j2, j3, j4⟩ := by
            show mk (madeTo I S 0) S 0 = _
            rw [hJ, hS]
            simp [mk, u0, takes, overs, h1]
          clear hS hkv hk hJ hI y0 y1 y2 y3 y4
          subst h1
          go_wp2
          go_roundw
          case rel => exact ⟨1, 1, by omega, rfl, by go_num, by simp only [e]; exact (by with_reducible repeat (first | exact ex_refl _ | exact ex_more | apply ex_alloc | apply ex_plus | apply ex_drew | apply ex_drewN))⟩
          case measure => simp [intOf]
        · skip
          have e : madeTo I S 1 = ⟨⟨jr, jg, jb, ja, jt, jc, ji, jl, jn⟩, true, j1, j2, j3, j4⟩ := by
            show mk (madeTo I S 0) S 0 = _
            rw [hJ, hS]
            simp [mk, u0, takes, overs, h1]
          clear hS hkv hk hJ hI y0 y1 y2 y3 y4
          subst h1
          go_wp2
          go_roundw
          case rel => exact ⟨1, 1, by omega, rfl, by go_num, by simp only [e]; exact (by with_reducible repeat (first | exact ex_refl _ | exact ex_more | apply ex_alloc | apply ex_plus | apply ex_drew | apply ex_drewN))⟩
          case measure => simp [intOf]
      · cases j0
        · skip
          have e : madeTo I S 1 = ⟨⟨vr, vg, vb, va, jt, jc, ji, jl, jn⟩, true, j1, j2, j3, j4⟩ := by
            show mk (madeTo I S 0) S 0 = _
            rw [hJ, hS]
            simp [mk, u0, takes, overs, h1]
          clear hS hkv hk hJ hI y0 y1 y2 y3 y4
          subst h1
          go_wp2
          go_roundw
          case rel => exact ⟨1, 1, by omega, rfl, by go_num, by simp only [e]; exact (by with_reducible repeat (first | exact ex_refl _ | exact ex_more | apply ex_alloc | apply ex_plus | apply ex_drew | apply ex_drewN))⟩
          case measure => simp [intOf]
        · skip
          have e : madeTo I S 1 = ⟨⟨jr, jg, jb, ja, jt, jc, ji, jl, jn⟩, true, j1, j2, j3, j4⟩ := by
            show mk (madeTo I S 0) S 0 = _
            rw [hJ, hS]
            simp [mk, u0, takes, overs, h1]
          clear hS hkv hk hJ hI y0 y1 y2 y3 y4
          subst h1
          go_wp2
          go_roundw
          case rel => exact ⟨1, 1, by omega, rfl, by go_num, by simp only [e]; exact (by with_reducible repeat (first | exact ex_refl _ | exact ex_more | apply ex_alloc | apply ex_plus | apply ex_drew | apply ex_drewN))⟩
          case measure => simp [intOf]
      · cases j0
        · skip
          have e : madeTo I S 1 = ⟨⟨vr, vg, vb, va, jt, jc, ji, jl, jn⟩, false, j1, j2, j3, j4⟩ := by
            show mk (madeTo I S 0) S 0 = _
            rw [hJ, hS]
            simp [mk, u0, takes, overs, h1]
          clear hS hkv hk hJ hI y0 y1 y2 y3 y4
          subst h1
          go_wp2
          go_roundw
          case rel => exact ⟨1, 1, by omega, rfl, by go_num, by simp only [e]; exact (by with_reducible repeat (first | exact ex_refl _ | exact ex_more | apply ex_alloc | apply ex_plus | apply ex_drew | apply ex_drewN))⟩
          case measure => simp [intOf]
        · skip
          have e : madeTo I S 1 = ⟨⟨vr, vg, vb, va, jt, jc, ji, jl, jn⟩, false, j1, j2, j3, j4⟩ := by
            show mk (madeTo I S 0) S 0 = _
            rw [hJ, hS]
            simp [mk, u0, takes, overs, h1]
          clear hS hkv hk hJ hI y0 y1 y2 y3 y4
          subst h1
          go_wp2
          go_roundw
          case rel => exact ⟨1, 1, by omega, rfl, by go_num, by simp only [e]; exact (by with_reducible repeat (first | exact ex_refl _ | exact ex_more | apply ex_alloc | apply ex_plus | apply ex_drew | apply ex_drewN))⟩
          case measure => simp [intOf]
      · cases j0
        · skip
          have e : madeTo I S 1 = ⟨⟨vr, vg, vb, va, jt, jc, ji, jl, jn⟩, true, j1, j2, j3, j4⟩ := by
            show mk (madeTo I S 0) S 0 = _
            rw [hJ, hS]
            simp [mk, u0, takes, overs, h1]
          clear hS hkv hk hJ hI y0 y1 y2 y3 y4
          subst h1
          go_wp2
          go_roundw
          case rel => exact ⟨1, 1, by omega, rfl, by go_num, by simp only [e]; exact (by with_reducible repeat (first | exact ex_refl _ | exact ex_more | apply ex_alloc | apply ex_plus | apply ex_drew | apply ex_drewN))⟩
          case measure => simp [intOf]
        · skip
          have e : madeTo I S 1 = ⟨⟨vr, vg, vb, va, jt, jc, ji, jl, jn⟩, true, j1, j2, j3, j4⟩ := by
            show mk (madeTo I S 0) S 0 = _
            rw [hJ, hS]
            simp [mk, u0, takes, overs, h1]
          clear hS hkv hk hJ hI y0 y1 y2 y3 y4
          subst h1
          go_wp2
          go_roundw
          case rel => exact ⟨1, 1, by omega, rfl, by go_num, by simp only [e]; exact (by with_reducible repeat (first | exact ex_refl _ | exact ex_more | apply ex_alloc | apply ex_plus | apply ex_drew | apply ex_drewN))⟩
          case measure => simp [intOf]
    · obtain rfl : kv = 1 := by omega
      obtain ⟨⟨⟨jr, jg, jb, ja, jt, jc, ji, jl, jn⟩, j0, j1, j2, j3, j4⟩, hJ⟩ : ∃ J, madeTo I S 1 = J := ⟨_, rfl⟩
      rw [hJ]
      simp only
      rcases sayOk_iff.1 y1 with h1 | h1 | h1 | h1 | h1
      · skip
        have e : madeTo I S 2 = ⟨⟨jr, jg, jb, ja, jt, jc, ji, jl, jn⟩, j0, j1, j2, j3, j4⟩ := by
          show mk (madeTo I S 1) S 1 = _
          rw [hJ, hS]
          simp [mk, u1, takes, overs, h1]
        clear hS hkv hk hJ hI y0 y1 y2 y3 y4
        subst h1
        go_wp2
        go_roundw
        case rel => exact ⟨2, 2, by omega, rfl, by go_num, by simp only [e]; exact (by with_reducible repeat (first | exact ex_refl _ | exact ex_more | apply ex_alloc | apply ex_plus | apply ex_drew | apply ex_drewN))⟩
        case measure => simp [intOf]
      · cases j1
        · skip
          have e : madeTo I S 2 = ⟨⟨jr, jg, jb, ja, vt, jc, ji, jl, jn⟩, j0, false, j2, j3, j4⟩ := by
            show mk (madeTo I S 1) S 1 = _
            rw [hJ, hS]
            simp [mk, u1, takes, overs, h1]
          clear hS hkv hk hJ hI y0 y1 y2 y3 y4
          subst h1
          go_wp2
          go_roundw
          case rel => exact ⟨2, 2, by omega, rfl, by go_num, by simp only [e]; exact (by with_reducible repeat (first | exact ex_refl _ | exact ex_more | apply ex_alloc | apply ex_plus | apply ex_drew | apply ex_drewN))⟩
          case measure => simp [intOf]
        · skip
          have e : madeTo I S 2 = ⟨⟨jr, jg, jb, ja, jt, jc, ji, jl, jn⟩, j0, true, j2, j3, j4⟩ := by
            show mk (madeTo I S 1) S 1 = _
            rw [hJ, hS]
            simp [mk, u1, takes, overs, h1]
          clear hS hkv hk hJ hI y0 y1 y2 y3 y4
          subst h1
          go_wp2
          go_roundw
          case rel => exact ⟨2, 2, by omega, rfl, by go_num, by simp only [e]; exact (by with_reducible repeat (first | exact ex_refl _ | exact ex_more | apply ex_alloc | apply ex_plus | apply ex_drew | apply ex_drewN))⟩
          case measure => simp [intOf]
      · cases j1
        · skip
          have e : madeTo I S 2 = ⟨⟨jr, jg, jb, ja, vt, jc, ji, jl, jn⟩, j0, true, j2, j3, j4⟩ := by
            show mk (madeTo I S 1) S 1 = _
            rw [hJ, hS]
            simp [mk, u1, takes, overs, h1]
          clear hS hkv hk hJ hI y0 y1 y2 y3 y4
          subst h1
          go_wp2
          go_roundw
          case rel => exact ⟨2, 2, by omega, rfl, by go_num, by simp only [e]; exact (by with_reducible repeat (first | exact ex_refl _ | exact ex_more | apply ex_alloc | apply ex_plus | apply ex_drew | apply ex_drewN))⟩
          case measure => simp [intOf]
        · skip
          have e : madeTo I S 2 = ⟨⟨jr, jg, jb, ja, jt, jc, ji, jl, jn⟩, j0, true, j2, j3, j4⟩ := by
            show mk (madeTo I S 1) S 1 = _
            rw [hJ, hS]
            simp [mk, u1, takes, overs, h1]
          clear hS hkv hk hJ hI y0 y1 y2 y3 y4
          subst h1
          go_wp2
          go_roundw
          case rel => exact ⟨2, 2, by omega, rfl, by go_num, by simp only [e]; exact (by with_reducible repeat (first | exact ex_refl _ | exact ex_more | apply ex_alloc | apply ex_plus | apply ex_drew | apply ex_drewN))⟩
          case measure => simp [intOf]
      · cases j1
        · skip
          have e : madeTo I S 2 = ⟨⟨jr, jg, jb, ja, vt, jc, ji, jl, jn⟩, j0, false, j2, j3, j4⟩ := by
            show mk (madeTo I S 1) S 1 = _
            rw [hJ, hS]
            simp [mk, u1, takes, overs, h1]
          clear hS hkv hk hJ hI y0 y1 y2 y3 y4
          subst h1
          go_wp2
          go_roundw
          case rel => exact ⟨2, 2, by omega, rfl, by go_num, by simp only [e]; exact (by with_reducible repeat (first | exact ex_refl _ | exact ex_more | apply ex_alloc | apply ex_plus | apply ex_drew | apply ex_drewN))⟩
          case measure => simp [intOf]
        · skip
          have e : madeTo I S 2 = ⟨⟨jr, jg, jb, ja, vt, jc, ji, jl, jn⟩, j0, false, j2, j3, j4⟩ := by
            show mk (madeTo I S 1) S 1 = _
            rw [hJ, hS]
            simp [mk, u1, takes, overs, h1]
          clear hS hkv hk hJ hI y0 y1 y2 y3 y4
          subst h1
          go_wp2
          go_roundw
          case rel => exact ⟨2, 2, by omega, rfl, by go_num, by simp only [e]; exact (by with_reducible repeat (first | exact ex_refl _ | exact ex_more | apply ex_alloc | apply ex_plus | apply ex_drew | apply ex_drewN))⟩
          case measure => simp [intOf]
      · cases j1
        · skip
          have e : madeTo I S 2 = ⟨⟨jr, jg, jb, ja, vt, jc, ji, jl, jn⟩, j0, true, j2, j3, j4⟩ := by
            show mk (madeTo I S 1) S 1 = _
            rw [hJ, hS]
            simp [mk, u1, takes, overs, h1]
          clear hS hkv hk hJ hI y0 y1 y2 y3 y4
          subst h1
          go_wp2
          go_roundw
          case rel => exact ⟨2, 2, by omega, rfl, by go_num, by simp only [e]; exact (by with_reducible repeat (first | exact ex_refl _ | exact ex_more | apply ex_alloc | apply ex_plus | apply ex_drew | apply ex_drewN))⟩
          case measure => simp [intOf]
        · skip
          have e : madeTo I S 2 = ⟨⟨jr, jg, jb, ja, vt, jc, ji, jl, jn⟩, j0, true, j2, j3, j4⟩ := by
            show mk (madeTo I S 1) S 1 = _
            rw [hJ, hS]
            simp [mk, u1, takes, overs, h1]
          clear hS hkv hk hJ hI y0 y1 y2 y3 y4
          subst h1
          go_wp2
          go_roundw
          case rel => exact ⟨2, 2, by omega, rfl, by go_num, by simp only [e]; exact (by with_reducible repeat (first | exact ex_refl _ | exact ex_more | apply ex_alloc | apply ex_plus | apply ex_drew | apply ex_drewN))⟩
          case measure => simp [intOf]
    · obtain rfl : kv = 2 := by omega
      obtain ⟨⟨⟨jr, jg, jb, ja, jt, jc, ji, jl, jn⟩, j0, j1, j2, j3, j4⟩, hJ⟩ : ∃ J, madeTo I S 2 = J := ⟨_, rfl⟩
      rw [hJ]
      simp only
      rcases sayOk_iff.1 y2 with h1 | h1 | h1 | h1 | h1
      · skip
        have e : madeTo I S 3 = ⟨⟨jr, jg, jb, ja, jt, jc, ji, jl, jn⟩, j0, j1, j2, j3, j4⟩ := by
          show mk (madeTo I S 2) S 2 = _
          rw [hJ, hS]
          simp [mk, u2, takes, overs, h1]
        clear hS hkv hk hJ hI y0 y1 y2 y3 y4
        subst h1
        go_wp2
        go_roundw
        case rel => exact ⟨3, 3, by omega, rfl, by go_num, by simp only [e]; exact (by with_reducible repeat (first | exact ex_refl _ | exact ex_more | apply ex_alloc | apply ex_plus | apply ex_drew | apply ex_drewN))⟩
        case measure => simp [intOf]
      · cases j2
        · skip
          have e : madeTo I S 3 = ⟨⟨jr, jg, jb, ja, jt, vc, ji, jl, jn⟩, j0, j1, false, j3, j4⟩ := by
            show mk (madeTo I S 2) S 2 = _
            rw [hJ, hS]
            simp [mk, u2, takes, overs, h1]
          clear hS hkv hk hJ hI y0 y1 y2 y3 y4
          subst h1
          go_wp2
          go_roundw
          case rel => exact ⟨3, 3, by omega, rfl, by go_num, by simp only [e]; exact (by with_reducible repeat (first | exact ex_refl _ | exact ex_more | apply ex_alloc | apply ex_plus | apply ex_drew | apply ex_drewN))⟩
          case measure => simp [intOf]
        · skip
          have e : madeTo I S 3 = ⟨⟨jr, jg, jb, ja, jt, jc, ji, jl, jn⟩, j0, j1, true, j3, j4⟩ := by
            show mk (madeTo I S 2) S 2 = _
            rw [hJ, hS]
            simp [mk, u2, takes, overs, h1]
          clear hS hkv hk hJ hI y0 y1 y2 y3 y4
          subst h1
          go_wp2
          go_roundw
          case rel => exact ⟨3, 3, by omega, rfl, by go_num, by simp only [e]; exact (by with_reducible repeat (first | exact ex_refl _ | exact ex_more | apply ex_alloc | apply ex_plus | apply ex_drew | apply ex_drewN))⟩
          case measure => simp [intOf]
      · cases j2
        · skip
          have e : madeTo I S 3 = ⟨⟨jr, jg, jb, ja, jt, vc, ji, jl, jn⟩, j0, j1, true, j3, j4⟩ := by
            show mk (madeTo I S 2) S 2 = _
            rw [hJ, hS]
            simp [mk, u2, takes, overs, h1]
          clear hS hkv hk hJ hI y0 y1 y2 y3 y4
          subst h1
          go_wp2
          go_roundw
          case rel => exact ⟨3, 3, by omega, rfl, by go_num, by simp only [e]; exact (by with_reducible repeat (first | exact ex_refl _ | exact ex_more | apply ex_alloc | apply ex_plus | apply ex_drew | apply ex_drewN))⟩
          case measure => simp [intOf]
        · skip
          have e : madeTo I S 3 = ⟨⟨jr, jg, jb, ja, jt, jc, ji, jl, jn⟩, j0, j1, true, j3, j4⟩ := by
            show mk (madeTo I S 2) S 2 = _
            rw [hJ, hS]
            simp [mk, u2, takes, overs, h1]
          clear hS hkv hk hJ hI y0 y1 y2 y3 y4
          subst h1
          go_wp2
          go_roundw
          case rel => exact ⟨3, 3, by omega, rfl, by go_num, by simp only [e]; exact (by with_reducible repeat (first | exact ex_refl _ | exact ex_more | apply ex_alloc | apply ex_plus | apply ex_drew | apply ex_drewN))⟩
          case measure => simp [intOf]
      · cases j2
        · skip
          have e : madeTo I S 3 = ⟨⟨jr, jg, jb, ja, jt, vc, ji, jl, jn⟩, j0, j1, false, j3, j4⟩ := by
            show mk (madeTo I S 2) S 2 = _
            rw [hJ, hS]
            simp [mk, u2, takes, overs, h1]
          clear hS hkv hk hJ hI y0 y1 y2 y3 y4
          subst h1
          go_wp2
          go_roundw
          case rel => exact ⟨3, 3, by omega, rfl, by go_num, by simp only [e]; exact (by with_reducible repeat (first | exact ex_refl _ | exact ex_more | apply ex_alloc | apply ex_plus | apply ex_drew | apply ex_drewN))⟩
          case measure => simp [intOf]
        · skip
          have e : madeTo I S 3 = ⟨⟨jr, jg, jb, ja, jt, vc, ji, jl, jn⟩, j0, j1, false, j3, j4⟩ := by
            show mk (madeTo I S 2) S 2 = _
            rw [hJ, hS]
            simp [mk, u2, takes, overs, h1]
          clear hS hkv hk hJ hI y0 y1 y2 y3 y4
          subst h1
          go_wp2
          go_roundw
          case rel => exact ⟨3, 3, by omega, rfl, by go_num, by simp only [e]; exact (by with_reducible repeat (first | exact ex_refl _ | exact ex_more | apply ex_alloc | apply ex_plus | apply ex_drew | apply ex_drewN))⟩
          case measure => simp [intOf]
      · cases j2
        · skip
          have e : madeTo I S 3 = ⟨⟨jr, jg, jb, ja, jt, vc, ji, jl, jn⟩, j0, j1, true, j3, j4⟩ := by
            show mk (madeTo I S 2) S 2 = _
            rw [hJ, hS]
            simp [mk, u2, takes, overs, h1]
          clear hS hkv hk hJ hI y0 y1 y2 y3 y4
          subst h1
          go_wp2
          go_roundw
          case rel => exact ⟨3, 3, by omega, rfl, by go_num, by simp only [e]; exact (by with_reducible repeat (first | exact ex_refl _ | exact ex_more | apply ex_alloc | apply ex_plus | apply ex_drew | apply ex_drewN))⟩
          case measure => simp [intOf]
        · skip
          have e : madeTo I S 3 = ⟨⟨jr, jg, jb, ja, jt, vc, ji, jl, jn⟩, j0, j1, true, j3, j4⟩ := by
            show mk (madeTo I S 2) S 2 = _
            rw [hJ, hS]
            simp [mk, u2, takes, overs, h1]
          clear hS hkv hk hJ hI y0 y1 y2 y3 y4
          subst h1
          go_wp2
          go_roundw
          case rel => exact ⟨3, 3, by omega, rfl, by go_num, by simp only [e]; exact (by with_reducible repeat (first | exact ex_refl _ | exact ex_more | apply ex_alloc | apply ex_plus | apply ex_drew | apply ex_drewN))⟩
          case measure => simp [intOf]
    · obtain rfl : kv = 3 := by omega
      obtain ⟨⟨⟨jr, jg, jb, ja, jt, jc, ji, jl, jn⟩, j0, j1, j2, j3, j4⟩, hJ⟩ : ∃ J, madeTo I S 3 = J := ⟨_, rfl⟩
      rw [hJ]
      simp only
      rcases sayOk_iff.1 y3 with h1 | h1 | h1 | h1 | h1
      · skip
        have e : madeTo I S 4 = ⟨⟨jr, jg, jb, ja, jt, jc, ji, jl, jn⟩, j0, j1, j2, j3, j4⟩ := by
          show mk (madeTo I S 3) S 3 = _
          rw [hJ, hS]
          simp [mk, u3, takes, overs, h1]
        clear hS hkv hk hJ hI y0 y1 y2 y3 y4
        subst h1
        go_wp2
        go_roundw
        case rel => exact ⟨4, 4, by omega, rfl, by go_num, by simp only [e]; exact (by with_reducible repeat (first | exact ex_refl _ | exact ex_more | apply ex_alloc | apply ex_plus | apply ex_drew | apply ex_drewN))⟩
        case measure => simp [intOf]
      · cases j3
        · skip
          have e : madeTo I S 4 = ⟨⟨jr, jg, jb, ja, jt, jc, vi, jl, jn⟩, j0, j1, j2, false, j4⟩ := by
            show mk (madeTo I S 3) S 3 = _
            rw [hJ, hS]
            simp [mk, u3, takes, overs, h1]
          clear hS hkv hk hJ hI y0 y1 y2 y3 y4
          subst h1
          go_wp2
          go_roundw
          case rel => exact ⟨4, 4, by omega, rfl, by go_num, by simp only [e]; exact (by with_reducible repeat (first | exact ex_refl _ | exact ex_more | apply ex_alloc | apply ex_plus | apply ex_drew | apply ex_drewN))⟩
          case measure => simp [intOf]
        · skip
          have e : madeTo I S 4 = ⟨⟨jr, jg, jb, ja, jt, jc, ji, jl, jn⟩, j0, j1, j2, true, j4⟩ := by
            show mk (madeTo I S 3) S 3 = _
            rw [hJ, hS]
            simp [mk, u3, takes, overs, h1]
          clear hS hkv hk hJ hI y0 y1 y2 y3 y4
          subst h1
          go_wp2
          go_roundw
          case rel => exact ⟨4, 4, by omega, rfl, by go_num, by simp only [e]; exact (by with_reducible repeat (first | exact ex_refl _ | exact ex_more | apply ex_alloc | apply ex_plus | apply ex_drew | apply ex_drewN))⟩
          case measure => simp [intOf]
      · cases j3
        · skip
          have e : madeTo I S 4 = ⟨⟨jr, jg, jb, ja, jt, jc, vi, jl, jn⟩, j0, j1, j2, true, j4⟩ := by
            show mk (madeTo I S 3) S 3 = _
            rw [hJ, hS]
            simp [mk, u3, takes, overs, h1]
          clear hS hkv hk hJ hI y0 y1 y2 y3 y4
          subst h1
          go_wp2
          go_roundw
          case rel => exact ⟨4, 4, by omega, rfl, by go_num, by simp only [e]; exact (by with_reducible repeat (first | exact ex_refl _ | exact ex_more | apply ex_alloc | apply ex_plus | apply ex_drew | apply ex_drewN))⟩
          case measure => simp [intOf]
        · skip
          have e : madeTo I S 4 = ⟨⟨jr, jg, jb, ja, jt, jc, ji, jl, jn⟩, j0, j1, j2, true, j4⟩ := by
            show mk (madeTo I S 3) S 3 = _
            rw [hJ, hS]
            simp [mk, u3, takes, overs, h1]
          clear hS hkv hk hJ hI y0 y1 y2 y3 y4
          subst h1
          go_wp2
          go_roundw
          case rel => exact ⟨4, 4, by omega, rfl, by go_num, by simp only [e]; exact (by with_reducible repeat (first | exact ex_refl _ | exact ex_more | apply ex_alloc | apply ex_plus | apply ex_drew | apply ex_drewN))⟩
          case measure => simp [intOf]
      · cases j3
        · skip
          have e : madeTo I S 4 = ⟨⟨jr, jg, jb, ja, jt, jc, vi, jl, jn⟩, j0, j1, j2, false, j4⟩ := by
            show mk (madeTo I S 3) S 3 = _
            rw [hJ, hS]
            simp [mk, u3, takes, overs, h1]
          clear hS hkv hk hJ hI y0 y1 y2 y3 y4
          subst h1
          go_wp2
          go_roundw
          case rel => exact ⟨4, 4, by omega, rfl, by go_num, by simp only [e]; exact (by with_reducible repeat (first | exact ex_refl _ | exact ex_more | apply ex_alloc | apply ex_plus | apply ex_drew | apply ex_drewN))⟩
          case measure => simp [intOf]
        · skip
          have e : madeTo I S 4 = ⟨⟨jr, jg, jb, ja, jt, jc, vi, jl, jn⟩, j0, j1, j2, false, j4⟩ := by
            show mk (madeTo I S 3) S 3 = _
            rw [hJ, hS]
            simp [mk, u3, takes, overs, h1]
          clear hS hkv hk hJ hI y0 y1 y2 y3 y4
          subst h1
          go_wp2
          go_roundw
          case rel => exact ⟨4, 4, by omega, rfl, by go_num, by simp only [e]; exact (by with_reducible repeat (first | exact ex_refl _ | exact ex_more | apply ex_alloc | apply ex_plus | apply ex_drew | apply ex_drewN))⟩
          case measure => simp [intOf]
      · cases j3
        · skip
          have e : madeTo I S 4 = ⟨⟨jr, jg, jb, ja, jt, jc, vi, jl, jn⟩, j0, j1, j2, true, j4⟩ := by
            show mk (madeTo I S 3) S 3 = _
            rw [hJ, hS]
            simp [mk, u3, takes, overs, h1]
          clear hS hkv hk hJ hI y0 y1 y2 y3 y4
          subst h1
          go_wp2
          go_roundw
          case rel => exact ⟨4, 4, by omega, rfl, by go_num, by simp only [e]; exact (by with_reducible repeat (first | exact ex_refl _ | exact ex_more | apply ex_alloc | apply ex_plus | apply ex_drew | apply ex_drewN))⟩
          case measure => simp [intOf]
        · skip
          have e : madeTo I S 4 = ⟨⟨jr, jg, jb, ja, jt, jc, vi, jl, jn⟩, j0, j1, j2, true, j4⟩ := by
            show mk (madeTo I S 3) S 3 = _
            rw [hJ, hS]
            simp [mk, u3, takes, overs, h1]
          clear hS hkv hk hJ hI y0 y1 y2 y3 y4
          subst h1
          go_wp2
          go_roundw
          case rel => exact ⟨4, 4, by omega, rfl, by go_num, by simp only [e]; exact (by with_reducible repeat (first | exact ex_refl _ | exact ex_more | apply ex_alloc | apply ex_plus | apply ex_drew | apply ex_drewN))⟩
          case measure => simp [intOf]
    · obtain rfl : kv = 4 := by omega
      obtain ⟨⟨⟨jr, jg, jb, ja, jt, jc, ji, jl, jn⟩, j0, j1, j2, j3, j4⟩, hJ⟩ : ∃ J, madeTo I S 4 = J := ⟨_, rfl⟩
      rw [hJ]
      simp only
      rcases sayOk_iff.1 y4 with h1 | h1 | h1 | h1 | h1
      · skip
        have e : madeTo I S 5 = ⟨⟨jr, jg, jb, ja, jt, jc, ji, jl, jn⟩, j0, j1, j2, j3, j4⟩ := by
          show mk (madeTo I S 4) S 4 = _
          rw [hJ, hS]
          simp [mk, u4, takes, overs, h1]
        clear hS hkv hk hJ hI y0 y1 y2 y3 y4
        subst h1
        go_wp2
        go_roundw
        case rel => exact ⟨5, 5, by omega, rfl, by go_num, by simp only [e]; exact (by with_reducible repeat (first | exact ex_refl _ | exact ex_more | apply ex_alloc | apply ex_plus | apply ex_drew | apply ex_drewN))⟩
        case measure => simp [intOf]
      · cases j4
        · skip
          have e : madeTo I S 5 = ⟨⟨jr, jg, jb, ja, jt, jc, ji, vl, vn⟩, j0, j1, j2, j3, false⟩ := by
            show mk (madeTo I S 4) S 4 = _
            rw [hJ, hS]
            simp [mk, u4, takes, overs, h1]
          clear hS hkv hk hJ hI y0 y1 y2 y3 y4
          subst h1
          go_wp2
          go_roundw
          case rel => exact ⟨5, 5, by omega, rfl, by go_num, by simp only [e]; exact (by with_reducible repeat (first | exact ex_refl _ | exact ex_more | apply ex_alloc | apply ex_plus | apply ex_drew | apply ex_drewN))⟩
          case measure => simp [intOf]
        · skip
          have e : madeTo I S 5 = ⟨⟨jr, jg, jb, ja, jt, jc, ji, jl, jn⟩, j0, j1, j2, j3, true⟩ := by
            show mk (madeTo I S 4) S 4 = _
            rw [hJ, hS]
            simp [mk, u4, takes, overs, h1]
          clear hS hkv hk hJ hI y0 y1 y2 y3 y4
          subst h1
          go_wp2
          go_roundw
          case rel => exact ⟨5, 5, by omega, rfl, by go_num, by simp only [e]; exact (by with_reducible repeat (first | exact ex_refl _ | exact ex_more | apply ex_alloc | apply ex_plus | apply ex_drew | apply ex_drewN))⟩
          case measure => simp [intOf]
      · cases j4
        · skip
          have e : madeTo I S 5 = ⟨⟨jr, jg, jb, ja, jt, jc, ji, vl, vn⟩, j0, j1, j2, j3, true⟩ := by
            show mk (madeTo I S 4) S 4 = _
            rw [hJ, hS]
            simp [mk, u4, takes, overs, h1]
          clear hS hkv hk hJ hI y0 y1 y2 y3 y4
          subst h1
          go_wp2
          go_roundw
          case rel => exact ⟨5, 5, by omega, rfl, by go_num, by simp only [e]; exact (by with_reducible repeat (first | exact ex_refl _ | exact ex_more | apply ex_alloc | apply ex_plus | apply ex_drew | apply ex_drewN))⟩
          case measure => simp [intOf]
        · skip
          have e : madeTo I S 5 = ⟨⟨jr, jg, jb, ja, jt, jc, ji, jl, jn⟩, j0, j1, j2, j3, true⟩ := by
            show mk (madeTo I S 4) S 4 = _
            rw [hJ, hS]
            simp [mk, u4, takes, overs, h1]
          clear hS hkv hk hJ hI y0 y1 y2 y3 y4
          subst h1
          go_wp2
          go_roundw
          case rel => exact ⟨5, 5, by omega, rfl, by go_num, by simp only [e]; exact (by with_reducible repeat (first | exact ex_refl _ | exact ex_more | apply ex_alloc | apply ex_plus | apply ex_drew | apply ex_drewN))⟩
          case measure => simp [intOf]
      · cases j4
        · skip
          have e : madeTo I S 5 = ⟨⟨jr, jg, jb, ja, jt, jc, ji, vl, vn⟩, j0, j1, j2, j3, false⟩ := by
            show mk (madeTo I S 4) S 4 = _
            rw [hJ, hS]
            simp [mk, u4, takes, overs, h1]
          clear hS hkv hk hJ hI y0 y1 y2 y3 y4
          subst h1
          go_wp2
          go_roundw
          case rel => exact ⟨5, 5, by omega, rfl, by go_num, by simp only [e]; exact (by with_reducible repeat (first | exact ex_refl _ | exact ex_more | apply ex_alloc | apply ex_plus | apply ex_drew | apply ex_drewN))⟩
          case measure => simp [intOf]
        · skip
          have e : madeTo I S 5 = ⟨⟨jr, jg, jb, ja, jt, jc, ji, vl, vn⟩, j0, j1, j2, j3, false⟩ := by
            show mk (madeTo I S 4) S 4 = _
            rw [hJ, hS]
            simp [mk, u4, takes, overs, h1]
          clear hS hkv hk hJ hI y0 y1 y2 y3 y4
          subst h1
          go_wp2
          go_roundw
          case rel => exact ⟨5, 5, by omega, rfl, by go_num, by simp only [e]; exact (by with_reducible repeat (first | exact ex_refl _ | exact ex_more | apply ex_alloc | apply ex_plus | apply ex_drew | apply ex_drewN))⟩
          case measure => simp [intOf]
      · cases j4
        · skip
          have e : madeTo I S 5 = ⟨⟨jr, jg, jb, ja, jt, jc, ji, vl, vn⟩, j0, j1, j2, j3, true⟩ := by
            show mk (madeTo I S 4) S 4 = _
            rw [hJ, hS]
            simp [mk, u4, takes, overs, h1]
          clear hS hkv hk hJ hI y0 y1 y2 y3 y4
          subst h1
          go_wp2
          go_roundw
          case rel => exact ⟨5, 5, by omega, rfl, by go_num, by simp only [e]; exact (by with_reducible repeat (first | exact ex_refl _ | exact ex_more | apply ex_alloc | apply ex_plus | apply ex_drew | apply ex_drewN))⟩
          case measure => simp [intOf]
        · skip
          have e : madeTo I S 5 = ⟨⟨jr, jg, jb, ja, jt, jc, ji, vl, vn⟩, j0, j1, j2, j3, true⟩ := by
            show mk (madeTo I S 4) S 4 = _
            rw [hJ, hS]
            simp [mk, u4, takes, overs, h1]
          clear hS hkv hk hJ hI y0 y1 y2 y3 y4
          subst h1
          go_wp2
          go_roundw
          case rel => exact ⟨5, 5, by omega, rfl, by go_num, by simp only [e]; exact (by with_reducible repeat (first | exact ex_refl _ | exact ex_more | apply ex_alloc | apply ex_plus | apply ex_drew | apply ex_drewN))⟩
          case measure => simp [intOf]
    · obtain rfl : kv = 5 := by omega
      rw [show madeTo I S 5 = made I S from rfl]
      clear hS hkv hk hI y0 y1 y2 y3 y4
      go_wp2
      exact bodyPost_ret (v := .agg #[.int .u8 ((made I S).l).r, .int .u8 ((made I S).l).g, .int .u8 ((made I S).l).b, .int .u8 ((made I S).l).a, .int .i64 ((made I S).l).tx, .int .u8 ((made I S).l).cu, .int .i64 ((made I S).l).bi, .bool ((made I S).l).bl, .int .i64 ((made I S).l).bn, .bool ((made I S)).k0, .bool ((made I S)).k1, .bool ((made I S)).k2, .bool ((made I S)).k3, .bool ((made I S)).k4]) (by simp [results, Try.results30, go_sem, ↓IntWalk.iteOmega]) rfl ⟨rfl, by with_reducible repeat (first | exact Below.refl _ _ | apply ba | apply bp | apply bd | apply bn)⟩

end Go.Proofs.Ythcplebmffbmpaa
