/- MeshStrip is proved: neighbours in a strip have an edge in common, gone through the other way round; a fan's triangles begin with its first number, each going on where the one ahead ended: the call returns true for any numbers. No condition. -/
import Derived.Test.YtkiahgkfgcjkgaaMesh6
import Derived.Test.YtkiahgkfgcjkgaaOpen2
namespace Go.Proofs.Ytkiahgkfgcjkgaa
open Go.RowKit Go.ChangeShapes Go.WideShapes Go.ChangeAt
set_option linter.unusedSimpArgs false
set_option linter.unusedVariables false
attribute [local go_sem] plus_size plus_drew dn_set dn_alloc dn_plus plus_dn cell_plus frozen_plus set_plus cell_alloc frozen_alloc set_alloc

attribute [local go_sem] eqarr_34 nearr_34 larr_34

attribute [local go_sem] eqarr_50 nearr_50 larr_50

attribute [local go_sem] isnil_26

attribute [local go_sem] isnil_29

attribute [local go_sem] isnil_30

attribute [local go_sem] isnil_31

set_option maxRecDepth 100000 in
set_option maxHeartbeats 4000000 in
theorem meshStrip_walk (ao : Option Addr) (n cap : Nat) (l : List Int) (w : World) (hn : n ≤ 9223372036854775807) (hl : Lay fI w ao n l) : Calls Try.prog 7 #[.slice ao n cap] w fun e w' => e = .returned (.bool true) ∧ Below w.heap.size w w' := by
  have hlen := hl.len
  by_cases h2 : 200 < n
  · have i2 : (200 : Int) < (n : Int) := by omega
    go_enter Try.func7, Try.ntmps7
    go_wp2_with (go_at_call 10; refine (plus_post (alive_calls _)).mono ?_; rintro e w' ⟨rfl, nx, rfl⟩)
    go_ret
    exact ⟨rfl, by with_reducible repeat (first | exact Below.refl _ _ | apply ba | apply bp | apply bd | apply bn)⟩
  have i2 : ¬ (200 : Int) < (n : Int) := by omega
  cases h3 : lenOk 1 n
  · have e1 := prErr_bad (kind := 1) (ix := l) (by decide) (by omega) (by rw [hlen]; exact h3)
    have e2 := prErr_bad (kind := 2) (ix := l) (by decide) (by omega) (by rw [hlen]; exact h3)
    have h12 : n = 1 ∨ n = 2 := by
      simp [lenOk] at h3
      omega
    rcases h12 with rfl | rfl
    · go_enter Try.func7, Try.ntmps7
      go_wp2_with (first | (go_at_call 10; refine (plus_post (alive_calls _)).mono ?_; rintro e w' ⟨rfl, nx, rfl⟩) | (go_at_call 9; refine (mprim_calls _ _ _ _ l _ (by decide) (hl.ex (by with_reducible repeat (first | exact ex_refl _ | exact ex_more | apply ex_alloc | apply ex_plus | apply ex_drew | apply ex_drewN | (apply ex_on; assumption)))) (by omega)).mono ?_; first | (rintro e w1 ⟨ao1, m1, cap1, rfl, hw1, hl1⟩; rw [e1]) | (rintro e w2 ⟨ao2, m2, cap2, rfl, hw2, hB⟩; rw [e2])))
      go_ret
      exact ⟨rfl, below_ex (by with_reducible repeat (first | exact ex_refl _ | exact ex_more | apply ex_alloc | apply ex_plus | apply ex_drew | apply ex_drewN | (apply ex_on; assumption)))⟩
    · go_enter Try.func7, Try.ntmps7
      go_wp2_with (first | (go_at_call 10; refine (plus_post (alive_calls _)).mono ?_; rintro e w' ⟨rfl, nx, rfl⟩) | (go_at_call 9; refine (mprim_calls _ _ _ _ l _ (by decide) (hl.ex (by with_reducible repeat (first | exact ex_refl _ | exact ex_more | apply ex_alloc | apply ex_plus | apply ex_drew | apply ex_drewN | (apply ex_on; assumption)))) (by omega)).mono ?_; first | (rintro e w1 ⟨ao1, m1, cap1, rfl, hw1, hl1⟩; rw [e1]) | (rintro e w2 ⟨ao2, m2, cap2, rfl, hw2, hB⟩; rw [e2])))
      go_ret
      exact ⟨rfl, below_ex (by with_reducible repeat (first | exact ex_refl _ | exact ex_more | apply ex_alloc | apply ex_plus | apply ex_drew | apply ex_drewN | (apply ex_on; assumption)))⟩
  · have e1 := prErr_good (kind := 1) (ix := l) (by decide) (by omega) (by rw [hlen]; exact h3)
    have e2 := prErr_good (kind := 2) (ix := l) (by decide) (by omega) (by rw [hlen]; exact h3)
    have h12 : n = 0 ∨ 3 ≤ n := by
      simp [lenOk] at h3
      omega
    have p1 : prList ⟨1, l⟩ = firsts (stripT l) (n - 2) := by rw [prList_good e1, ← hlen]; rfl
    have p2 : prList ⟨2, l⟩ = firsts (fanT l) (n - 2) := by rw [prList_good e2, ← hlen]; rfl
    obtain ⟨m, hm⟩ : ∃ m, n - 2 = m := ⟨_, rfl⟩
    rw [hm] at p1 p2
    by_cases hz : 0 < m
    rotate_left
    · obtain rfl : m = 0 := by omega
      go_enter Try.func7, Try.ntmps7
      go_wp2_with (first | (go_at_call 10; refine (plus_post (alive_calls _)).mono ?_; rintro e w' ⟨rfl, nx, rfl⟩) | (go_at_call 9; refine (mprim_calls _ _ _ _ l _ (by decide) (hl.ex (by with_reducible repeat (first | exact ex_refl _ | exact ex_more | apply ex_alloc | apply ex_plus | apply ex_drew | apply ex_drewN | (apply ex_on; assumption)))) (by omega)).mono ?_; first | (rintro e w1 ⟨ao1, m1, cap1, rfl, hw1, hl1⟩; rw [e1]; rw [p1] at hl1; obtain rfl : 0 = m1 := (by rw [← hl1.len, firsts_length])) | (rintro e w2 ⟨ao2, m2, cap2, rfl, hw2, hB⟩; rw [e2]; rw [p2] at hB; obtain rfl : 0 = m2 := (by rw [← hB.len, firsts_length]); have hA := hl1.ex hw2; have hL := hl.ex (w' := w2) (by with_reducible repeat (first | exact ex_refl _ | exact ex_more | apply ex_alloc | apply ex_plus | apply ex_drew | apply ex_drewN | (apply ex_on; assumption))))))
      go_loopw [8] (fun i wr => i = .int .i64 0 ∧ ∃ x, wr = plus w2 x) (fun i _ => 0)
      case atStart => exact ⟨rfl, (by with_reducible repeat (first | exact ex_refl _ | exact ex_more | apply ex_alloc | apply ex_plus | apply ex_drew | apply ex_drewN))⟩
      case round =>
        obtain ⟨rfl, x, rfl⟩ := hrel
        go_wp2
        go_ret
        exact ⟨rfl, below_ex (by with_reducible repeat (first | exact ex_refl _ | exact ex_more | apply ex_alloc | apply ex_plus | apply ex_drew | apply ex_drewN | (apply ex_on; assumption)))⟩
    · have iz0 : (0 : Int) < (m : Int) := by omega
      have iz1 : ¬ (n : Int) = 0 := by omega
      have iz2 : ((n : Int) == 0) = false := by rw [beq_eq_false_iff_ne]; omega
      go_enter Try.func7, Try.ntmps7
      go_wp2_with (first | (go_at_call 10; refine (plus_post (alive_calls _)).mono ?_; rintro e w' ⟨rfl, nx, rfl⟩) | (go_at_call 9; refine (mprim_calls _ _ _ _ l _ (by decide) (hl.ex (by with_reducible repeat (first | exact ex_refl _ | exact ex_more | apply ex_alloc | apply ex_plus | apply ex_drew | apply ex_drewN | (apply ex_on; assumption)))) (by omega)).mono ?_; first | (rintro e w1 ⟨ao1, m1, cap1, rfl, hw1, hl1⟩; rw [e1]; rw [p1] at hl1; obtain rfl : m = m1 := (by rw [← hl1.len, firsts_length])) | (rintro e w2 ⟨ao2, m2, cap2, rfl, hw2, hB⟩; rw [e2]; rw [p2] at hB; obtain rfl : m = m2 := (by rw [← hB.len, firsts_length]); have hA := hl1.ex hw2; have hL := hl.ex (w' := w2) (by with_reducible repeat (first | exact ex_refl _ | exact ex_more | apply ex_alloc | apply ex_plus | apply ex_drew | apply ex_drewN | (apply ex_on; assumption))))))
      go_loopw [8] (fun i wr => ∃ k : Nat, k ≤ m ∧ i = .int .i64 k ∧ ∃ x, wr = plus w2 x) (fun i _ => m - (intOf i).toNat)
      case atStart => exact ⟨0, Nat.zero_le _, rfl, (by with_reducible repeat (first | exact ex_refl _ | exact ex_more | apply ex_alloc | apply ex_plus | apply ex_drew | apply ex_drewN))⟩
      case round =>
        obtain ⟨k, hk, rfl, x, rfl⟩ := hrel
        by_cases hkl : k < m
        · have ik : (k : Int) < (m : Int) := by omega
          obtain ⟨ga, oa, rfl, hga, hcA⟩ := hA.some (by omega)
          obtain ⟨gb, ob, rfl, hgb, hcB⟩ := hB.some (by omega)
          obtain ⟨gl, ol, rfl, hgl, hcL⟩ := hL.some (by omega)
          have il0 : (0 : Int) < (n : Int) := by omega
          have il1 : ¬ (n : Int) ≤ 0 := by omega
          have il2 : 0 < n := by omega
          have z0 := cellI hL.len hcL (k := 0) (by omega)
          rw [Nat.add_zero] at z0
          obtain ⟨a0, a1, a2⟩ := cellV hA.len hcA (k := k) (by omega)
          obtain ⟨f0, f1, f2⟩ := cellV hB.len hcB (k := k) (by omega)
          rw [nth_firsts hkl] at a0 a1 a2 f0 f1 f2
          simp only [fanT] at f0 f1 f2
          by_cases np : k % 2 = 1
          · by_cases nn : k + 1 < m
            · by_cases nz : 0 < k
              · have ip : (k : Int) % 2 = 1 := by omega
                have sk : stripT l k = ⟨nth 0 l (k + 1), nth 0 l k, nth 0 l (k + 2)⟩ := by simp [stripT, np]
                rw [sk] at a0 a1 a2
                have in1 : (k : Int) + 1 < (m : Int) := by omega
                obtain ⟨b0, b1, b2⟩ := cellV hA.len hcA (k := k + 1) (by omega)
                rw [nth_firsts (show k + 1 < m by omega)] at b0 b1 b2
                have sk1 : stripT l (k + 1) = ⟨nth 0 l (k + 1), nth 0 l (k + 2), nth 0 l (k + 3)⟩ := by simp [stripT, show ¬ (k + 1) % 2 = 1 by omega]
                rw [sk1] at b0 b1 b2
                have ip1 : (0 : Int) ≤ (k : Int) + 1 := by omega
                have iw1 : IntKind.i64.wrap ((k : Int) + 1) = (k : Int) + 1 := wrap_le (by omega)
                have it1 : ((k : Int) + 1).toNat = k + 1 := by omega
                have iz : (0 : Int) < (k : Int) := by omega
                obtain ⟨d0, d1, d2⟩ := cellV hB.len hcB (k := k - 1) (by omega)
                rw [nth_firsts (show k - 1 < m by omega)] at d0 d1 d2
                have fk1 : fanT l (k - 1) = ⟨nth 0 l 0, nth 0 l k, nth 0 l (k + 1)⟩ := by simp [fanT, show k - 1 + 1 = k by omega, show k - 1 + 2 = k + 1 by omega]
                rw [fk1] at d0 d1 d2
                have im0 : (0 : Int) ≤ (k : Int) - 1 := by omega
                have im1 : (k : Int) - 1 < (m : Int) := by omega
                have iwm : IntKind.i64.wrap ((k : Int) - 1) = (k : Int) - 1 := wrap_le (by omega)
                have itm : ((k : Int) - 1).toNat = k - 1 := by omega
                go_wp2
                refine region_plus (by kernel_rfl) (by kernel_rfl) ?_
                (repeat (go_big_quiet_step (fail)))
                refine wpQuiet_nil ?_
                rintro _ ⟨x2, rfl⟩
                go_wp2
                refine region_plus (by kernel_rfl) (by kernel_rfl) ?_
                (repeat (go_big_quiet_step (fail)))
                refine wpQuiet_nil ?_
                rintro _ ⟨x2, rfl⟩
                go_wp2
                refine region_plus (by kernel_rfl) (by kernel_rfl) ?_
                (repeat (go_big_quiet_step (fail)))
                refine wpQuiet_nil ?_
                rintro _ ⟨x2, rfl⟩
                go_wp2
                go_roundw
                case rel => exact ⟨k + 1, by omega, by go_num, (by with_reducible repeat (first | exact ex_refl _ | exact ex_more | apply ex_alloc | apply ex_plus | apply ex_drew | apply ex_drewN))⟩
                case measure => simp [intOf]; omega
              · omega
            · by_cases nz : 0 < k
              · have ip : (k : Int) % 2 = 1 := by omega
                have sk : stripT l k = ⟨nth 0 l (k + 1), nth 0 l k, nth 0 l (k + 2)⟩ := by simp [stripT, np]
                rw [sk] at a0 a1 a2
                have in1 : ¬ (k : Int) + 1 < (m : Int) := by omega
                have iz : (0 : Int) < (k : Int) := by omega
                obtain ⟨d0, d1, d2⟩ := cellV hB.len hcB (k := k - 1) (by omega)
                rw [nth_firsts (show k - 1 < m by omega)] at d0 d1 d2
                have fk1 : fanT l (k - 1) = ⟨nth 0 l 0, nth 0 l k, nth 0 l (k + 1)⟩ := by simp [fanT, show k - 1 + 1 = k by omega, show k - 1 + 2 = k + 1 by omega]
                rw [fk1] at d0 d1 d2
                have im0 : (0 : Int) ≤ (k : Int) - 1 := by omega
                have im1 : (k : Int) - 1 < (m : Int) := by omega
                have iwm : IntKind.i64.wrap ((k : Int) - 1) = (k : Int) - 1 := wrap_le (by omega)
                have itm : ((k : Int) - 1).toNat = k - 1 := by omega
                go_wp2
                refine region_plus (by kernel_rfl) (by kernel_rfl) ?_
                (repeat (go_big_quiet_step (fail)))
                refine wpQuiet_nil ?_
                rintro _ ⟨x2, rfl⟩
                go_wp2
                refine region_plus (by kernel_rfl) (by kernel_rfl) ?_
                (repeat (go_big_quiet_step (fail)))
                refine wpQuiet_nil ?_
                rintro _ ⟨x2, rfl⟩
                go_wp2
                refine region_plus (by kernel_rfl) (by kernel_rfl) ?_
                (repeat (go_big_quiet_step (fail)))
                refine wpQuiet_nil ?_
                rintro _ ⟨x2, rfl⟩
                go_wp2
                go_roundw
                case rel => exact ⟨k + 1, by omega, by go_num, (by with_reducible repeat (first | exact ex_refl _ | exact ex_more | apply ex_alloc | apply ex_plus | apply ex_drew | apply ex_drewN))⟩
                case measure => simp [intOf]; omega
              · omega
          · by_cases nn : k + 1 < m
            · by_cases nz : 0 < k
              · have ip : ¬ (k : Int) % 2 = 1 := by omega
                have sk : stripT l k = ⟨nth 0 l k, nth 0 l (k + 1), nth 0 l (k + 2)⟩ := by simp [stripT, np]
                rw [sk] at a0 a1 a2
                have in1 : (k : Int) + 1 < (m : Int) := by omega
                obtain ⟨b0, b1, b2⟩ := cellV hA.len hcA (k := k + 1) (by omega)
                rw [nth_firsts (show k + 1 < m by omega)] at b0 b1 b2
                have sk1 : stripT l (k + 1) = ⟨nth 0 l (k + 2), nth 0 l (k + 1), nth 0 l (k + 3)⟩ := by simp [stripT, show (k + 1) % 2 = 1 by omega]
                rw [sk1] at b0 b1 b2
                have ip1 : (0 : Int) ≤ (k : Int) + 1 := by omega
                have iw1 : IntKind.i64.wrap ((k : Int) + 1) = (k : Int) + 1 := wrap_le (by omega)
                have it1 : ((k : Int) + 1).toNat = k + 1 := by omega
                have iz : (0 : Int) < (k : Int) := by omega
                obtain ⟨d0, d1, d2⟩ := cellV hB.len hcB (k := k - 1) (by omega)
                rw [nth_firsts (show k - 1 < m by omega)] at d0 d1 d2
                have fk1 : fanT l (k - 1) = ⟨nth 0 l 0, nth 0 l k, nth 0 l (k + 1)⟩ := by simp [fanT, show k - 1 + 1 = k by omega, show k - 1 + 2 = k + 1 by omega]
                rw [fk1] at d0 d1 d2
                have im0 : (0 : Int) ≤ (k : Int) - 1 := by omega
                have im1 : (k : Int) - 1 < (m : Int) := by omega
                have iwm : IntKind.i64.wrap ((k : Int) - 1) = (k : Int) - 1 := wrap_le (by omega)
                have itm : ((k : Int) - 1).toNat = k - 1 := by omega
                go_wp2
                refine region_plus (by kernel_rfl) (by kernel_rfl) ?_
                (repeat (go_big_quiet_step (fail)))
                refine wpQuiet_nil ?_
                rintro _ ⟨x2, rfl⟩
                go_wp2
                refine region_plus (by kernel_rfl) (by kernel_rfl) ?_
                (repeat (go_big_quiet_step (fail)))
                refine wpQuiet_nil ?_
                rintro _ ⟨x2, rfl⟩
                go_wp2
                go_roundw
                case rel => exact ⟨k + 1, by omega, by go_num, (by with_reducible repeat (first | exact ex_refl _ | exact ex_more | apply ex_alloc | apply ex_plus | apply ex_drew | apply ex_drewN))⟩
                case measure => simp [intOf]; omega
              · have ip : ¬ (k : Int) % 2 = 1 := by omega
                have sk : stripT l k = ⟨nth 0 l k, nth 0 l (k + 1), nth 0 l (k + 2)⟩ := by simp [stripT, np]
                rw [sk] at a0 a1 a2
                have in1 : (k : Int) + 1 < (m : Int) := by omega
                obtain ⟨b0, b1, b2⟩ := cellV hA.len hcA (k := k + 1) (by omega)
                rw [nth_firsts (show k + 1 < m by omega)] at b0 b1 b2
                have sk1 : stripT l (k + 1) = ⟨nth 0 l (k + 2), nth 0 l (k + 1), nth 0 l (k + 3)⟩ := by simp [stripT, show (k + 1) % 2 = 1 by omega]
                rw [sk1] at b0 b1 b2
                have ip1 : (0 : Int) ≤ (k : Int) + 1 := by omega
                have iw1 : IntKind.i64.wrap ((k : Int) + 1) = (k : Int) + 1 := wrap_le (by omega)
                have it1 : ((k : Int) + 1).toNat = k + 1 := by omega
                have iz : ¬ (0 : Int) < (k : Int) := by omega
                go_wp2
                refine region_plus (by kernel_rfl) (by kernel_rfl) ?_
                (repeat (go_big_quiet_step (fail)))
                refine wpQuiet_nil ?_
                rintro _ ⟨x2, rfl⟩
                go_wp2
                refine region_plus (by kernel_rfl) (by kernel_rfl) ?_
                (repeat (go_big_quiet_step (fail)))
                refine wpQuiet_nil ?_
                rintro _ ⟨x2, rfl⟩
                go_wp2
                go_roundw
                case rel => exact ⟨k + 1, by omega, by go_num, (by with_reducible repeat (first | exact ex_refl _ | exact ex_more | apply ex_alloc | apply ex_plus | apply ex_drew | apply ex_drewN))⟩
                case measure => simp [intOf]; omega
            · by_cases nz : 0 < k
              · have ip : ¬ (k : Int) % 2 = 1 := by omega
                have sk : stripT l k = ⟨nth 0 l k, nth 0 l (k + 1), nth 0 l (k + 2)⟩ := by simp [stripT, np]
                rw [sk] at a0 a1 a2
                have in1 : ¬ (k : Int) + 1 < (m : Int) := by omega
                have iz : (0 : Int) < (k : Int) := by omega
                obtain ⟨d0, d1, d2⟩ := cellV hB.len hcB (k := k - 1) (by omega)
                rw [nth_firsts (show k - 1 < m by omega)] at d0 d1 d2
                have fk1 : fanT l (k - 1) = ⟨nth 0 l 0, nth 0 l k, nth 0 l (k + 1)⟩ := by simp [fanT, show k - 1 + 1 = k by omega, show k - 1 + 2 = k + 1 by omega]
                rw [fk1] at d0 d1 d2
                have im0 : (0 : Int) ≤ (k : Int) - 1 := by omega
                have im1 : (k : Int) - 1 < (m : Int) := by omega
                have iwm : IntKind.i64.wrap ((k : Int) - 1) = (k : Int) - 1 := wrap_le (by omega)
                have itm : ((k : Int) - 1).toNat = k - 1 := by omega
                go_wp2
                refine region_plus (by kernel_rfl) (by kernel_rfl) ?_
                (repeat (go_big_quiet_step (fail)))
                refine wpQuiet_nil ?_
                rintro _ ⟨x2, rfl⟩
                go_wp2
                refine region_plus (by kernel_rfl) (by kernel_rfl) ?_
                (repeat (go_big_quiet_step (fail)))
                refine wpQuiet_nil ?_
                rintro _ ⟨x2, rfl⟩
                go_wp2
                go_roundw
                case rel => exact ⟨k + 1, by omega, by go_num, (by with_reducible repeat (first | exact ex_refl _ | exact ex_more | apply ex_alloc | apply ex_plus | apply ex_drew | apply ex_drewN))⟩
                case measure => simp [intOf]; omega
              · have ip : ¬ (k : Int) % 2 = 1 := by omega
                have sk : stripT l k = ⟨nth 0 l k, nth 0 l (k + 1), nth 0 l (k + 2)⟩ := by simp [stripT, np]
                rw [sk] at a0 a1 a2
                have in1 : ¬ (k : Int) + 1 < (m : Int) := by omega
                have iz : ¬ (0 : Int) < (k : Int) := by omega
                go_wp2
                refine region_plus (by kernel_rfl) (by kernel_rfl) ?_
                (repeat (go_big_quiet_step (fail)))
                refine wpQuiet_nil ?_
                rintro _ ⟨x2, rfl⟩
                go_wp2
                refine region_plus (by kernel_rfl) (by kernel_rfl) ?_
                (repeat (go_big_quiet_step (fail)))
                refine wpQuiet_nil ?_
                rintro _ ⟨x2, rfl⟩
                go_wp2
                go_roundw
                case rel => exact ⟨k + 1, by omega, by go_num, (by with_reducible repeat (first | exact ex_refl _ | exact ex_more | apply ex_alloc | apply ex_plus | apply ex_drew | apply ex_drewN))⟩
                case measure => simp [intOf]; omega
        · have ik : ¬ (k : Int) < (m : Int) := by omega
          go_wp2
          go_ret
          exact ⟨rfl, below_ex (by with_reducible repeat (first | exact ex_refl _ | exact ex_more | apply ex_alloc | apply ex_plus | apply ex_drew | apply ex_drewN | (apply ex_on; assumption)))⟩

set_option maxRecDepth 100000 in
theorem meshStrip_lifted (os : Os) (started : os.Started) (H : Type) (enc : TypeId × Value → H) :
    ReturnsInHanded {} Try.checked os 7 .any (Rows.meshStripSpec.pre6 enc Try.prog Try.f7 Rows.meshStripRow.domain false) (Rows.meshStripSpec.post enc Try.prog Try.f7 false true false false) := by
  refine returnsInHanded_of_change (C := Try.checked) own started (by kernel_rfl) Try.func7
    (ChangeSpec.witness6 (enc := enc) (C := Try.checked) false ⟨#[], #[.slice none 0 0], []⟩ 8 (by kernel_rfl) (by kernel_rfl) (by kernel_rfl) (by kernel_rfl)) ?_
  intro W base args ds gs before hval0 hW hcnd _
  have hval : ∀ (j : Nat) t v, Try.f7.params[j]? = some t → args[j]? = some v → Value.okWide Try.prog W .any base t v := hval0
  have hW' := hW
  obtain ⟨p, q, hA0, hV, rfl, hfz, hnd⟩ := hW
  have hA : DataW.TrodAll enc Try.prog W 0 (fun _ => true) true Try.f7.params.toList args.toList ds p := hA0
  rw [Try.params7] at hA hval
  obtain ⟨v0, vs0, d0, ds0, p0, q0, hargs, rfl, rfl, h0, r0⟩ := trodAll_cons hA
  obtain ⟨rfl, rfl, rfl⟩ := trodAll_nil r0
  obtain rfl : args = #[v0] := by cases args; simp_all
  obtain ⟨fu0, x0, hx0⟩ := slice_cell Try.underlying26 (hval 0 26 v0 rfl rfl) h0
  obtain ⟨ao0, n0, cap0, rfl, hn0, _, ho0⟩ := open_sl (c := 1) Try.underlying26 (by kernel_rfl) (by decide) hx0
  obtain ⟨l0, hl0⟩ := lay_ints (by kernel_rfl) ho0
  refine (meshStrip_walk ao0 n0 cap0 l0  W hn0 hl0).mono fun e W' ⟨he, hb⟩ => ?_
  exact ⟨_, he, law_post laidOut Try.underlying4 rfl (by kernel_rfl) (by kernel_rfl) (fun ds h => match ds, h with | [_], _ => rfl) hW' hb⟩

theorem meshStrip_holds : Rows.MeshStripSaid :=
  OpenClaim.holds_of_wide 7 Try.f7 rfl rfl rfl rfl rfl rfl rfl ⟨rfl, rfl, rfl, rfl, rfl⟩ rfl rfl rfl rfl rfl (by kernel_rfl) Try.func7 (by kernel_rfl)
    (of_decide_eq_true (by kernel_rfl)) (by unfold Func.isWrapper; first | (rw [if_pos (by decide +kernel)]; kernel_rfl) | (rw [if_neg (by decide +kernel)]; exact ⟨rfl, rfl⟩))
    (fun os started H enc _ => meshStrip_lifted os started H enc)
#print axioms meshStrip_holds
end Go.Proofs.Ytkiahgkfgcjkgaa
