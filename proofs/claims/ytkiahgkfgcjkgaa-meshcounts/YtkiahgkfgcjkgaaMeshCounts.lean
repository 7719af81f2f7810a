/- MeshCounts is proved: a primitive that may be has as many triangles as its kind and its numbers say, and their corners are its numbers: the call returns true for any primitive. No condition. -/
import Derived.Test.YtkiahgkfgcjkgaaMesh6
import Derived.Test.YtkiahgkfgcjkgaaMesh4
import Derived.Test.YtkiahgkfgcjkgaaOpen2
import Derived.Test.YtkiahgkfgcjkgaaMeshMath3
namespace Go.Proofs.Ytkiahgkfgcjkgaa
open Go.RowKit Go.ChangeShapes Go.WideShapes Go.ChangeAt
set_option linter.unusedSimpArgs false
set_option linter.unusedVariables false
attribute [local go_sem] plus_size plus_drew dn_set dn_alloc dn_plus plus_dn cell_plus frozen_plus set_plus cell_alloc frozen_alloc set_alloc

attribute [local go_sem] eqarr_34 nearr_34 larr_34

attribute [local go_sem] eqarr_50 nearr_50 larr_50

attribute [local go_sem] isnil_26

attribute [local go_sem] isnil_29

attribute [local go_sem] isnil_30

attribute [local go_sem] isnil_31

set_option maxRecDepth 100000 in
set_option maxHeartbeats 4000000 in
theorem meshCounts_walk (kind : Int) (ao : Option Addr) (n cap : Nat) (ix : List Int) (w : World) (h0 : 0 ≤ kind) (hK : kind ≤ 255) (hn : n ≤ 9223372036854775807) (hl : Lay fI w ao n ix) : Calls Try.prog 6 #[.agg #[.int .u8 kind, .slice ao n cap]] w fun e w' => e = .returned (.bool true) ∧ Below w.heap.size w w' := by
  have hlen := hl.len
  by_cases h2 : 1000 < n
  · have i2 : (1000 : Int) < (n : Int) := by omega
    go_enter Try.func6, Try.ntmps6
    go_wp2_with (go_at_call 10; refine (plus_post (alive_calls _)).mono ?_; rintro e w' ⟨rfl, nx, rfl⟩)
    go_ret
    exact ⟨rfl, by with_reducible repeat (first | exact Below.refl _ _ | apply ba | apply bp | apply bd | apply bn)⟩
  have i2 : ¬ (1000 : Int) < (n : Int) := by omega
  rcases prErr_or ⟨kind, ix⟩ with he | he | he | he
  · go_enter Try.func6, Try.ntmps6
    go_wp2_with (first | (go_at_call 10; refine (plus_post (alive_calls _)).mono ?_; rintro e w' ⟨rfl, nx, rfl⟩) | (go_at_call 9; refine (mprim_calls _ _ _ _ ix _ (by omega) (hl.ex (by with_reducible repeat (first | exact ex_refl _ | exact ex_more | apply ex_alloc | apply ex_plus | apply ex_drew | apply ex_drewN | (apply ex_on; assumption)))) (by omega)).mono ?_; rintro e w1 ⟨ao1, m1, cap1, rfl, hw1, hl1⟩; rw [he]; rw [prList_bad (by rw [he]; decide)] at hl1; have b0 : w1.cell? ⟨w.heap.size, 0, none⟩ = some (.int .u8 kind) := cell_ex hw1 (by simp [go_sem, ↓IntWalk.iteOmega]); have b1 : w1.cell? ⟨w.heap.size, 1, none⟩ = some (.slice ao n cap) := cell_ex hw1 (by simp [go_sem, ↓IntWalk.iteOmega]); have hsz := cell_lt b0; have hix := hl.ex (w' := w1) (by with_reducible repeat (first | exact ex_refl _ | exact ex_more | apply ex_alloc | apply ex_plus | apply ex_drew | apply ex_drewN | (apply ex_on; assumption))); obtain rfl : m1 = 0 := hl1.len.symm))
    go_ret
    exact ⟨rfl, below_ex (by with_reducible repeat (first | exact ex_refl _ | exact ex_more | apply ex_alloc | apply ex_plus | apply ex_drew | apply ex_drewN | (apply ex_on; assumption)))⟩
  · go_enter Try.func6, Try.ntmps6
    go_wp2_with (first | (go_at_call 10; refine (plus_post (alive_calls _)).mono ?_; rintro e w' ⟨rfl, nx, rfl⟩) | (go_at_call 9; refine (mprim_calls _ _ _ _ ix _ (by omega) (hl.ex (by with_reducible repeat (first | exact ex_refl _ | exact ex_more | apply ex_alloc | apply ex_plus | apply ex_drew | apply ex_drewN | (apply ex_on; assumption)))) (by omega)).mono ?_; rintro e w1 ⟨ao1, m1, cap1, rfl, hw1, hl1⟩; rw [he]; rw [prList_bad (by rw [he]; decide)] at hl1; have b0 : w1.cell? ⟨w.heap.size, 0, none⟩ = some (.int .u8 kind) := cell_ex hw1 (by simp [go_sem, ↓IntWalk.iteOmega]); have b1 : w1.cell? ⟨w.heap.size, 1, none⟩ = some (.slice ao n cap) := cell_ex hw1 (by simp [go_sem, ↓IntWalk.iteOmega]); have hsz := cell_lt b0; have hix := hl.ex (w' := w1) (by with_reducible repeat (first | exact ex_refl _ | exact ex_more | apply ex_alloc | apply ex_plus | apply ex_drew | apply ex_drewN | (apply ex_on; assumption))); obtain rfl : m1 = 0 := hl1.len.symm))
    go_ret
    exact ⟨rfl, below_ex (by with_reducible repeat (first | exact ex_refl _ | exact ex_more | apply ex_alloc | apply ex_plus | apply ex_drew | apply ex_drewN | (apply ex_on; assumption)))⟩
  · go_enter Try.func6, Try.ntmps6
    go_wp2_with (first | (go_at_call 10; refine (plus_post (alive_calls _)).mono ?_; rintro e w' ⟨rfl, nx, rfl⟩) | (go_at_call 9; refine (mprim_calls _ _ _ _ ix _ (by omega) (hl.ex (by with_reducible repeat (first | exact ex_refl _ | exact ex_more | apply ex_alloc | apply ex_plus | apply ex_drew | apply ex_drewN | (apply ex_on; assumption)))) (by omega)).mono ?_; rintro e w1 ⟨ao1, m1, cap1, rfl, hw1, hl1⟩; rw [he]; rw [prList_bad (by rw [he]; decide)] at hl1; have b0 : w1.cell? ⟨w.heap.size, 0, none⟩ = some (.int .u8 kind) := cell_ex hw1 (by simp [go_sem, ↓IntWalk.iteOmega]); have b1 : w1.cell? ⟨w.heap.size, 1, none⟩ = some (.slice ao n cap) := cell_ex hw1 (by simp [go_sem, ↓IntWalk.iteOmega]); have hsz := cell_lt b0; have hix := hl.ex (w' := w1) (by with_reducible repeat (first | exact ex_refl _ | exact ex_more | apply ex_alloc | apply ex_plus | apply ex_drew | apply ex_drewN | (apply ex_on; assumption))); obtain rfl : m1 = 0 := hl1.len.symm))
    go_ret
    exact ⟨rfl, below_ex (by with_reducible repeat (first | exact ex_refl _ | exact ex_more | apply ex_alloc | apply ex_plus | apply ex_drew | apply ex_drewN | (apply ex_on; assumption)))⟩
  have hkk : kind = 0 ∨ kind = 1 ∨ kind = 2 := by
    by_cases h : 2 < kind
    · rw [prErr_kind h] at he
      cases he
    · omega
  have hlen3 := prTris_length ⟨kind, ix⟩ hkk
  have hok : lenOk kind n = true := by
    rw [← hlen]
    cases h : lenOk kind ix.length
    · by_cases h3 : 200 < ix.length
      · rw [prErr_many (by omega) h3] at he
        cases he
      · rw [prErr_bad (by omega) h3 h] at he
        cases he
    · rfl
  by_cases hz : kind = 0
  · have hn3 : n % 3 = 0 := by simp [lenOk, hz] at hok; exact hok
    have hlen4 : (prTris ⟨kind, ix⟩).length = n / 3 := by rw [hlen3, if_pos hz, hlen]
    clear hlen3
    subst hz
    obtain ⟨M, hM⟩ : ∃ M, n / 3 = M := ⟨_, rfl⟩
    rw [hM] at hlen4
    by_cases hn0 : n = 0
    · subst hn0
      obtain rfl : M = 0 := by omega
      go_enter Try.func6, Try.ntmps6
      go_wp2_with (first | (go_at_call 10; refine (plus_post (alive_calls _)).mono ?_; rintro e w' ⟨rfl, nx, rfl⟩) | (go_at_call 9; refine (mprim_calls _ _ _ _ ix _ (by omega) (hl.ex (by with_reducible repeat (first | exact ex_refl _ | exact ex_more | apply ex_alloc | apply ex_plus | apply ex_drew | apply ex_drewN | (apply ex_on; assumption)))) (by omega)).mono ?_; rintro e w1 ⟨ao1, m1, cap1, rfl, hw1, hl1⟩; rw [he]; rw [prList_good he] at hl1; have b0 : w1.cell? ⟨w.heap.size, 0, none⟩ = some (.int .u8 0) := cell_ex hw1 (by simp [go_sem, ↓IntWalk.iteOmega]); have b1 : w1.cell? ⟨w.heap.size, 1, none⟩ = some (.slice ao 0 cap) := cell_ex hw1 (by simp [go_sem, ↓IntWalk.iteOmega]); have hsz := cell_lt b0; have hix := hl.ex (w' := w1) (by with_reducible repeat (first | exact ex_refl _ | exact ex_more | apply ex_alloc | apply ex_plus | apply ex_drew | apply ex_drewN | (apply ex_on; assumption))); obtain rfl : 0 = m1 := hlen4.symm.trans hl1.len))
      go_loopw [8] (fun i wr => i = .int .i64 0 ∧ ∃ x, wr = plus w1 x) (fun i _ => 0)
      case atStart => exact ⟨rfl, (by with_reducible repeat (first | exact ex_refl _ | exact ex_more | apply ex_alloc | apply ex_plus | apply ex_drew | apply ex_drewN))⟩
      case round =>
        obtain ⟨rfl, x, rfl⟩ := hrel
        go_wp2
        go_ret
        exact ⟨rfl, below_ex (by with_reducible repeat (first | exact ex_refl _ | exact ex_more | apply ex_alloc | apply ex_plus | apply ex_drew | apply ex_drewN | (apply ex_on; assumption)))⟩
    · have in2 : (0 : Int) < (n : Int) - 2 := by omega
      have iw2 : IntKind.i64.wrap ((n : Int) - 2) = (n : Int) - 2 := wrap_le (by omega)
      go_enter Try.func6, Try.ntmps6
      go_wp2_with (first | (go_at_call 10; refine (plus_post (alive_calls _)).mono ?_; rintro e w' ⟨rfl, nx, rfl⟩) | (go_at_call 9; refine (mprim_calls _ _ _ _ ix _ (by omega) (hl.ex (by with_reducible repeat (first | exact ex_refl _ | exact ex_more | apply ex_alloc | apply ex_plus | apply ex_drew | apply ex_drewN | (apply ex_on; assumption)))) (by omega)).mono ?_; rintro e w1 ⟨ao1, m1, cap1, rfl, hw1, hl1⟩; rw [he]; rw [prList_good he] at hl1; have b0 : w1.cell? ⟨w.heap.size, 0, none⟩ = some (.int .u8 0) := cell_ex hw1 (by simp [go_sem, ↓IntWalk.iteOmega]); have b1 : w1.cell? ⟨w.heap.size, 1, none⟩ = some (.slice ao n cap) := cell_ex hw1 (by simp [go_sem, ↓IntWalk.iteOmega]); have hsz := cell_lt b0; have hix := hl.ex (w' := w1) (by with_reducible repeat (first | exact ex_refl _ | exact ex_more | apply ex_alloc | apply ex_plus | apply ex_drew | apply ex_drewN | (apply ex_on; assumption))); obtain rfl : M = m1 := hlen4.symm.trans hl1.len))
      go_loopw [8] (fun i wr => ∃ k : Nat, k ≤ M ∧ i = .int .i64 k ∧ ∃ x, wr = plus w1 x) (fun i _ => M - (intOf i).toNat)
      case atStart => exact ⟨0, Nat.zero_le _, rfl, (by with_reducible repeat (first | exact ex_refl _ | exact ex_more | apply ex_alloc | apply ex_plus | apply ex_drew | apply ex_drewN))⟩
      case round =>
        obtain ⟨k, hk, rfl, x, rfl⟩ := hrel
        by_cases hkl : k < M
        · have ik : (k : Int) < (M : Int) := by omega
          obtain ⟨g, off, rfl, hg, hcell⟩ := hl1.some (by omega)
          obtain ⟨c0, c1, c2⟩ := cellV hl1.len hcell hkl
          obtain ⟨q0, q1, q2, hq0, hq1, hq2, hq⟩ := corner_in (kind := 0) (ix := ix) (k := k) (by omega)
          rw [hq] at c0 c1 c2
          clear hq
          go_wp2
          go_loopw [9] (fun i wr => ∃ c : Nat, c ≤ 3 ∧ i = .int .i64 c ∧ ∃ x, wr = plus w1 x) (fun i _ => 3 - (intOf i).toNat)
          case atStart => exact ⟨0, by decide, rfl, (by with_reducible repeat (first | exact ex_refl _ | exact ex_more | apply ex_alloc | apply ex_plus | apply ex_drew | apply ex_drewN))⟩
          case round =>
            obtain ⟨c, hc, rfl, x, rfl⟩ := hrel
            rcases (show c = 0 ∨ c = 1 ∨ c = 2 ∨ c = 3 by omega) with rfl | rfl | rfl | rfl
            · go_wp2
              refine region_plus (by kernel_rfl) (by kernel_rfl) ?_
              (repeat (go_big_quiet_step ((go_at_call 23; exact plus_of (has_calls _ _ _ _ ix _ (hix.ex (by with_reducible repeat (first | exact ex_refl _ | exact ex_more | apply ex_alloc | apply ex_plus | apply ex_drew | apply ex_drewN | (apply ex_on; assumption)))) (by omega) q0 (by omega) rfl)))))
              refine wpQuiet_nil ?_
              rintro _ ⟨x2, rfl⟩
              go_wp2
              go_roundw
              case rel => exact ⟨1, by decide, rfl, (by with_reducible repeat (first | exact ex_refl _ | exact ex_more | apply ex_alloc | apply ex_plus | apply ex_drew | apply ex_drewN))⟩
              case measure => simp [intOf]
            · go_wp2
              refine region_plus (by kernel_rfl) (by kernel_rfl) ?_
              (repeat (go_big_quiet_step ((go_at_call 23; exact plus_of (has_calls _ _ _ _ ix _ (hix.ex (by with_reducible repeat (first | exact ex_refl _ | exact ex_more | apply ex_alloc | apply ex_plus | apply ex_drew | apply ex_drewN | (apply ex_on; assumption)))) (by omega) q1 (by omega) rfl)))))
              refine wpQuiet_nil ?_
              rintro _ ⟨x2, rfl⟩
              go_wp2
              go_roundw
              case rel => exact ⟨2, by decide, rfl, (by with_reducible repeat (first | exact ex_refl _ | exact ex_more | apply ex_alloc | apply ex_plus | apply ex_drew | apply ex_drewN))⟩
              case measure => simp [intOf]
            · go_wp2
              refine region_plus (by kernel_rfl) (by kernel_rfl) ?_
              (repeat (go_big_quiet_step ((go_at_call 23; exact plus_of (has_calls _ _ _ _ ix _ (hix.ex (by with_reducible repeat (first | exact ex_refl _ | exact ex_more | apply ex_alloc | apply ex_plus | apply ex_drew | apply ex_drewN | (apply ex_on; assumption)))) (by omega) q2 (by omega) rfl)))))
              refine wpQuiet_nil ?_
              rintro _ ⟨x2, rfl⟩
              go_wp2
              go_roundw
              case rel => exact ⟨3, by decide, rfl, (by with_reducible repeat (first | exact ex_refl _ | exact ex_more | apply ex_alloc | apply ex_plus | apply ex_drew | apply ex_drewN))⟩
              case measure => simp [intOf]
            · go_wp2
              go_roundw
              case rel => exact ⟨k + 1, by omega, by go_num, (by with_reducible repeat (first | exact ex_refl _ | exact ex_more | apply ex_alloc | apply ex_plus | apply ex_drew | apply ex_drewN))⟩
              case measure => simp [intOf]; omega
        · have ik : ¬ (k : Int) < (M : Int) := by omega
          have hwant : (M : Int) = (n : Int) / 3 := by omega
          go_wp2
          go_ret
          exact ⟨rfl, below_ex (by with_reducible repeat (first | exact ex_refl _ | exact ex_more | apply ex_alloc | apply ex_plus | apply ex_drew | apply ex_drewN | (apply ex_on; assumption)))⟩
  · have hn3 : n = 0 ∨ 3 ≤ n := by
      simp [lenOk, hz] at hok
      omega
    have hlen4 : (prTris ⟨kind, ix⟩).length = n - 2 := by rw [hlen3, if_neg hz, hlen]
    clear hlen3
    have dz : (kind == 0) = false := by rw [beq_eq_false_iff_ne]; exact hz
    obtain ⟨M, hM⟩ : ∃ M, n - 2 = M := ⟨_, rfl⟩
    rw [hM] at hlen4
    by_cases hn0 : n = 0
    · subst hn0
      obtain rfl : M = 0 := by omega
      go_enter Try.func6, Try.ntmps6
      go_wp2_with (first | (go_at_call 10; refine (plus_post (alive_calls _)).mono ?_; rintro e w' ⟨rfl, nx, rfl⟩) | (go_at_call 9; refine (mprim_calls _ _ _ _ ix _ (by omega) (hl.ex (by with_reducible repeat (first | exact ex_refl _ | exact ex_more | apply ex_alloc | apply ex_plus | apply ex_drew | apply ex_drewN | (apply ex_on; assumption)))) (by omega)).mono ?_; rintro e w1 ⟨ao1, m1, cap1, rfl, hw1, hl1⟩; rw [he]; rw [prList_good he] at hl1; have b0 : w1.cell? ⟨w.heap.size, 0, none⟩ = some (.int .u8 kind) := cell_ex hw1 (by simp [go_sem, ↓IntWalk.iteOmega]); have b1 : w1.cell? ⟨w.heap.size, 1, none⟩ = some (.slice ao 0 cap) := cell_ex hw1 (by simp [go_sem, ↓IntWalk.iteOmega]); have hsz := cell_lt b0; have hix := hl.ex (w' := w1) (by with_reducible repeat (first | exact ex_refl _ | exact ex_more | apply ex_alloc | apply ex_plus | apply ex_drew | apply ex_drewN | (apply ex_on; assumption))); obtain rfl : 0 = m1 := hlen4.symm.trans hl1.len))
      go_loopw [8] (fun i wr => i = .int .i64 0 ∧ ∃ x, wr = plus w1 x) (fun i _ => 0)
      case atStart => exact ⟨rfl, (by with_reducible repeat (first | exact ex_refl _ | exact ex_more | apply ex_alloc | apply ex_plus | apply ex_drew | apply ex_drewN))⟩
      case round =>
        obtain ⟨rfl, x, rfl⟩ := hrel
        go_wp2
        go_ret
        exact ⟨rfl, below_ex (by with_reducible repeat (first | exact ex_refl _ | exact ex_more | apply ex_alloc | apply ex_plus | apply ex_drew | apply ex_drewN | (apply ex_on; assumption)))⟩
    · have in2 : (0 : Int) < (n : Int) - 2 := by omega
      have iw2 : IntKind.i64.wrap ((n : Int) - 2) = (n : Int) - 2 := wrap_le (by omega)
      go_enter Try.func6, Try.ntmps6
      go_wp2_with (first | (go_at_call 10; refine (plus_post (alive_calls _)).mono ?_; rintro e w' ⟨rfl, nx, rfl⟩) | (go_at_call 9; refine (mprim_calls _ _ _ _ ix _ (by omega) (hl.ex (by with_reducible repeat (first | exact ex_refl _ | exact ex_more | apply ex_alloc | apply ex_plus | apply ex_drew | apply ex_drewN | (apply ex_on; assumption)))) (by omega)).mono ?_; rintro e w1 ⟨ao1, m1, cap1, rfl, hw1, hl1⟩; rw [he]; rw [prList_good he] at hl1; have b0 : w1.cell? ⟨w.heap.size, 0, none⟩ = some (.int .u8 kind) := cell_ex hw1 (by simp [go_sem, ↓IntWalk.iteOmega]); have b1 : w1.cell? ⟨w.heap.size, 1, none⟩ = some (.slice ao n cap) := cell_ex hw1 (by simp [go_sem, ↓IntWalk.iteOmega]); have hsz := cell_lt b0; have hix := hl.ex (w' := w1) (by with_reducible repeat (first | exact ex_refl _ | exact ex_more | apply ex_alloc | apply ex_plus | apply ex_drew | apply ex_drewN | (apply ex_on; assumption))); obtain rfl : M = m1 := hlen4.symm.trans hl1.len))
      go_loopw [8] (fun i wr => ∃ k : Nat, k ≤ M ∧ i = .int .i64 k ∧ ∃ x, wr = plus w1 x) (fun i _ => M - (intOf i).toNat)
      case atStart => exact ⟨0, Nat.zero_le _, rfl, (by with_reducible repeat (first | exact ex_refl _ | exact ex_more | apply ex_alloc | apply ex_plus | apply ex_drew | apply ex_drewN))⟩
      case round =>
        obtain ⟨k, hk, rfl, x, rfl⟩ := hrel
        by_cases hkl : k < M
        · have ik : (k : Int) < (M : Int) := by omega
          obtain ⟨g, off, rfl, hg, hcell⟩ := hl1.some (by omega)
          obtain ⟨c0, c1, c2⟩ := cellV hl1.len hcell hkl
          obtain ⟨q0, q1, q2, hq0, hq1, hq2, hq⟩ := corner_in (kind := kind) (ix := ix) (k := k) (by omega)
          rw [hq] at c0 c1 c2
          clear hq
          go_wp2
          go_loopw [9] (fun i wr => ∃ c : Nat, c ≤ 3 ∧ i = .int .i64 c ∧ ∃ x, wr = plus w1 x) (fun i _ => 3 - (intOf i).toNat)
          case atStart => exact ⟨0, by decide, rfl, (by with_reducible repeat (first | exact ex_refl _ | exact ex_more | apply ex_alloc | apply ex_plus | apply ex_drew | apply ex_drewN))⟩
          case round =>
            obtain ⟨c, hc, rfl, x, rfl⟩ := hrel
            rcases (show c = 0 ∨ c = 1 ∨ c = 2 ∨ c = 3 by omega) with rfl | rfl | rfl | rfl
            · go_wp2
              refine region_plus (by kernel_rfl) (by kernel_rfl) ?_
              (repeat (go_big_quiet_step ((go_at_call 23; exact plus_of (has_calls _ _ _ _ ix _ (hix.ex (by with_reducible repeat (first | exact ex_refl _ | exact ex_more | apply ex_alloc | apply ex_plus | apply ex_drew | apply ex_drewN | (apply ex_on; assumption)))) (by omega) q0 (by omega) rfl)))))
              refine wpQuiet_nil ?_
              rintro _ ⟨x2, rfl⟩
              go_wp2
              go_roundw
              case rel => exact ⟨1, by decide, rfl, (by with_reducible repeat (first | exact ex_refl _ | exact ex_more | apply ex_alloc | apply ex_plus | apply ex_drew | apply ex_drewN))⟩
              case measure => simp [intOf]
            · go_wp2
              refine region_plus (by kernel_rfl) (by kernel_rfl) ?_
              (repeat (go_big_quiet_step ((go_at_call 23; exact plus_of (has_calls _ _ _ _ ix _ (hix.ex (by with_reducible repeat (first | exact ex_refl _ | exact ex_more | apply ex_alloc | apply ex_plus | apply ex_drew | apply ex_drewN | (apply ex_on; assumption)))) (by omega) q1 (by omega) rfl)))))
              refine wpQuiet_nil ?_
              rintro _ ⟨x2, rfl⟩
              go_wp2
              go_roundw
              case rel => exact ⟨2, by decide, rfl, (by with_reducible repeat (first | exact ex_refl _ | exact ex_more | apply ex_alloc | apply ex_plus | apply ex_drew | apply ex_drewN))⟩
              case measure => simp [intOf]
            · go_wp2
              refine region_plus (by kernel_rfl) (by kernel_rfl) ?_
              (repeat (go_big_quiet_step ((go_at_call 23; exact plus_of (has_calls _ _ _ _ ix _ (hix.ex (by with_reducible repeat (first | exact ex_refl _ | exact ex_more | apply ex_alloc | apply ex_plus | apply ex_drew | apply ex_drewN | (apply ex_on; assumption)))) (by omega) q2 (by omega) rfl)))))
              refine wpQuiet_nil ?_
              rintro _ ⟨x2, rfl⟩
              go_wp2
              go_roundw
              case rel => exact ⟨3, by decide, rfl, (by with_reducible repeat (first | exact ex_refl _ | exact ex_more | apply ex_alloc | apply ex_plus | apply ex_drew | apply ex_drewN))⟩
              case measure => simp [intOf]
            · go_wp2
              go_roundw
              case rel => exact ⟨k + 1, by omega, by go_num, (by with_reducible repeat (first | exact ex_refl _ | exact ex_more | apply ex_alloc | apply ex_plus | apply ex_drew | apply ex_drewN))⟩
              case measure => simp [intOf]; omega
        · have ik : ¬ (k : Int) < (M : Int) := by omega
          have hwant : (M : Int) = (n : Int) - 2 := by omega
          go_wp2
          go_ret
          exact ⟨rfl, below_ex (by with_reducible repeat (first | exact ex_refl _ | exact ex_more | apply ex_alloc | apply ex_plus | apply ex_drew | apply ex_drewN | (apply ex_on; assumption)))⟩

set_option maxRecDepth 100000 in
theorem meshCounts_lifted (os : Os) (started : os.Started) (H : Type) (enc : TypeId × Value → H) :
    ReturnsInHanded {} Try.checked os 6 .any (Rows.meshCountsSpec.pre6 enc Try.prog Try.f6 Rows.meshCountsRow.domain false) (Rows.meshCountsSpec.post enc Try.prog Try.f6 false true false false) := by
  refine returnsInHanded_of_change (C := Try.checked) own started (by kernel_rfl) Try.func6
    (ChangeSpec.witness6 (enc := enc) (C := Try.checked) false ⟨#[], #[.agg #[.int .u8 0, .slice none 0 0]], []⟩ 8 (by kernel_rfl) (by kernel_rfl) (by kernel_rfl) (by kernel_rfl)) ?_
  intro W base args ds gs before hval0 hW hcnd _
  have hval : ∀ (j : Nat) t v, Try.f6.params[j]? = some t → args[j]? = some v → Value.okWide Try.prog W .any base t v := hval0
  have hW' := hW
  obtain ⟨p, q, hA0, hV, rfl, hfz, hnd⟩ := hW
  have hA : DataW.TrodAll enc Try.prog W 0 (fun _ => true) true Try.f6.params.toList args.toList ds p := hA0
  rw [Try.params6] at hA hval
  obtain ⟨v0, vs0, d0, ds0, p0, q0, hargs, rfl, rfl, h0, r0⟩ := trodAll_cons hA
  obtain ⟨rfl, rfl, rfl⟩ := trodAll_nil r0
  obtain rfl : args = #[v0] := by cases args; simp_all
  obtain ⟨k0, ao0, n0, cap0, l0, rfl, hk0, hK0, hn0, hl0⟩ := open_prim Try.underlying28 (by kernel_rfl) (by kernel_rfl) Try.underlying5 Try.underlying26 (by kernel_rfl) (by kernel_rfl) (hval 0 28 v0 rfl rfl) h0
  refine (meshCounts_walk k0 ao0 n0 cap0 l0  W hk0 hK0 hn0 hl0).mono fun e W' ⟨he, hb⟩ => ?_
  exact ⟨_, he, law_post laidOut Try.underlying4 rfl (by kernel_rfl) (by kernel_rfl) (fun ds h => match ds, h with | [_], _ => rfl) hW' hb⟩

theorem meshCounts_holds : Rows.MeshCountsSaid :=
  OpenClaim.holds_of_wide 6 Try.f6 rfl rfl rfl rfl rfl rfl rfl ⟨rfl, rfl, rfl, rfl, rfl⟩ rfl rfl rfl rfl rfl (by kernel_rfl) Try.func6 (by kernel_rfl)
    (of_decide_eq_true (by kernel_rfl)) (by unfold Func.isWrapper; first | (rw [if_pos (by decide +kernel)]; kernel_rfl) | (rw [if_neg (by decide +kernel)]; exact ⟨rfl, rfl⟩))
    (fun os started H enc _ => meshCounts_lifted os started H enc)
#print axioms meshCounts_holds
end Go.Proofs.Ytkiahgkfgcjkgaa
