/- What dioramaref04.Prim gives. -/
import Derived.Test.YtkiahgkfgcjkgaaMesh3
import Derived.Test.YtkiahgkfgcjkgaaMeshMath2
namespace Go.Proofs.Ytkiahgkfgcjkgaa
open Go.RowKit Go.ChangeShapes Go.WideShapes Go.ChangeAt
set_option linter.unusedSimpArgs false
set_option linter.unusedVariables false
attribute [local go_sem] plus_size plus_drew dn_set dn_alloc dn_plus plus_dn cell_plus frozen_plus set_plus cell_alloc frozen_alloc set_alloc

attribute [local go_sem] eqarr_34 nearr_34 larr_34

attribute [local go_sem] eqarr_50 nearr_50 larr_50

attribute [local go_sem] isnil_26

attribute [local go_sem] isnil_29

attribute [local go_sem] isnil_30

attribute [local go_sem] isnil_31

set_option maxRecDepth 100000 in
set_option maxHeartbeats 4000000 in
theorem rprim_bad (kind : Int) (ao : Option Addr) (n cap : Nat) (ix : List Int) (w : World) (h0 : 0 ≤ kind) (hl : Lay fI w ao n ix) (hn : n ≤ 9223372036854775807) (hb : prErr ⟨kind, ix⟩ ≠ 0) :
    Calls Try.prog 12 #[.agg #[.int .u8 kind, .slice ao n cap]] w fun e w' => RetT fV w (prList ⟨kind, ix⟩) (.int .i64 (prErr ⟨kind, ix⟩)) e w' := by
  have hlen := hl.len
  by_cases h1 : 2 < kind
  · have he := prErr_kind (ix := ix) h1
    rw [he]
    go_enter Try.func12, Try.ntmps12
    go_wp2
    exact bodyPost_ret (v := .tuple #[.slice none 0 0, .int .i64 2]) (by simp [results, Try.results12, go_sem]) rfl ⟨_, _, _, rfl, (by with_reducible repeat (first | exact ex_refl _ | exact ex_more | apply ex_alloc | apply ex_plus | apply ex_drew | apply ex_drewN)), by rw [prList_bad (by rw [he]; decide)]; exact Lay.nil⟩
  by_cases h2 : 200 < n
  · have he := prErr_many (ix := ix) h1 (by omega)
    rw [he]
    have i2 : (200 : Int) < (n : Int) := by omega
    go_enter Try.func12, Try.ntmps12
    go_wp2
    exact bodyPost_ret (v := .tuple #[.slice none 0 0, .int .i64 4]) (by simp [results, Try.results12, go_sem]) rfl ⟨_, _, _, rfl, (by with_reducible repeat (first | exact ex_refl _ | exact ex_more | apply ex_alloc | apply ex_plus | apply ex_drew | apply ex_drewN)), by rw [prList_bad (by rw [he]; decide)]; exact Lay.nil⟩
  have i2 : ¬ (200 : Int) < (n : Int) := by omega
  cases h3 : lenOk kind n
  · have he := prErr_bad (ix := ix) h1 (by omega) (by rw [hlen]; exact h3)
    rw [he]
    rcases (show kind = 0 ∨ kind = 1 ∨ kind = 2 by omega) with rfl | rfl | rfl
    · have hz : ¬ (n : Int) % 3 = 0 := by simp [lenOk] at h3; omega
      go_enter Try.func12, Try.ntmps12
      go_wp2
      exact bodyPost_ret (v := .tuple #[.slice none 0 0, .int .i64 40]) (by simp [results, Try.results12, go_sem]) rfl ⟨_, _, _, rfl, (by with_reducible repeat (first | exact ex_refl _ | exact ex_more | apply ex_alloc | apply ex_plus | apply ex_drew | apply ex_drewN)), by rw [prList_bad (by rw [he]; decide)]; exact Lay.nil⟩
    · have hz : n = 1 ∨ n = 2 := by simp [lenOk] at h3; omega
      rcases hz with rfl | rfl
      · go_enter Try.func12, Try.ntmps12
        go_wp2
        exact bodyPost_ret (v := .tuple #[.slice none 0 0, .int .i64 40]) (by simp [results, Try.results12, go_sem]) rfl ⟨_, _, _, rfl, (by with_reducible repeat (first | exact ex_refl _ | exact ex_more | apply ex_alloc | apply ex_plus | apply ex_drew | apply ex_drewN)), by rw [prList_bad (by rw [he]; decide)]; exact Lay.nil⟩
      · go_enter Try.func12, Try.ntmps12
        go_wp2
        exact bodyPost_ret (v := .tuple #[.slice none 0 0, .int .i64 40]) (by simp [results, Try.results12, go_sem]) rfl ⟨_, _, _, rfl, (by with_reducible repeat (first | exact ex_refl _ | exact ex_more | apply ex_alloc | apply ex_plus | apply ex_drew | apply ex_drewN)), by rw [prList_bad (by rw [he]; decide)]; exact Lay.nil⟩
    · have hz : n = 1 ∨ n = 2 := by simp [lenOk] at h3; omega
      rcases hz with rfl | rfl
      · go_enter Try.func12, Try.ntmps12
        go_wp2
        exact bodyPost_ret (v := .tuple #[.slice none 0 0, .int .i64 40]) (by simp [results, Try.results12, go_sem]) rfl ⟨_, _, _, rfl, (by with_reducible repeat (first | exact ex_refl _ | exact ex_more | apply ex_alloc | apply ex_plus | apply ex_drew | apply ex_drewN)), by rw [prList_bad (by rw [he]; decide)]; exact Lay.nil⟩
      · go_enter Try.func12, Try.ntmps12
        go_wp2
        exact bodyPost_ret (v := .tuple #[.slice none 0 0, .int .i64 40]) (by simp [results, Try.results12, go_sem]) rfl ⟨_, _, _, rfl, (by with_reducible repeat (first | exact ex_refl _ | exact ex_more | apply ex_alloc | apply ex_plus | apply ex_drew | apply ex_drewN)), by rw [prList_bad (by rw [he]; decide)]; exact Lay.nil⟩
  · exact absurd (prErr_good (ix := ix) h1 (by omega) (by rw [hlen]; exact h3)) hb

set_option maxRecDepth 100000 in
set_option maxHeartbeats 4000000 in
theorem rprim_good (kind : Int) (ao : Option Addr) (n cap : Nat) (ix : List Int) (w : World) (h0 : 0 ≤ kind) (hl : Lay fI w ao n ix) (he : prErr ⟨kind, ix⟩ = 0) :
    Calls Try.prog 12 #[.agg #[.int .u8 kind, .slice ao n cap]] w fun e w' => RetT fV w (prList ⟨kind, ix⟩) (.int .i64 (prErr ⟨kind, ix⟩)) e w' := by
  have hlen := hl.len
  rw [he]
  have h1 : ¬ 2 < kind := fun h => by rw [prErr_kind h] at he; cases he
  have h2 : ¬ 200 < ix.length := fun h => by rw [prErr_many h1 h] at he; cases he
  have h3 : lenOk kind n = true := by
    rw [← hlen]
    cases h : lenOk kind ix.length
    · rw [prErr_bad h1 h2 h] at he
      cases he
    · rfl
  rw [hlen] at h2
  have i2 : ¬ (200 : Int) < (n : Int) := by omega
  by_cases hn0 : n = 0
  · subst hn0
    rcases (show kind = 0 ∨ kind = 1 ∨ kind = 2 by omega) with rfl | rfl | rfl
    · go_enter Try.func12, Try.ntmps12
      go_wp2
      refine wp_loop_rounds 1 ?_
      rw [rounds_succ]
      go_wp2
      refine wp_loop_rounds 1 ?_
      rw [rounds_succ]
      go_wp2
      refine wp_loop_rounds 1 ?_
      rw [rounds_succ]
      go_wp2
      exact bodyPost_ret (v := .tuple #[.slice none 0 0, .int .i64 0]) (by simp [results, Try.results12, go_sem]) rfl ⟨_, _, _, rfl, (by with_reducible repeat (first | exact ex_refl _ | exact ex_more | apply ex_alloc | apply ex_plus | apply ex_drew | apply ex_drewN)), by rw [prList_good he, show prTris ⟨0, ix⟩ = [] by rw [hl.zero]; rfl]; exact Lay.nil⟩
    · go_enter Try.func12, Try.ntmps12
      go_wp2
      refine wp_loop_rounds 1 ?_
      rw [rounds_succ]
      go_wp2
      refine wp_loop_rounds 1 ?_
      rw [rounds_succ]
      go_wp2
      exact bodyPost_ret (v := .tuple #[.slice none 0 0, .int .i64 0]) (by simp [results, Try.results12, go_sem]) rfl ⟨_, _, _, rfl, (by with_reducible repeat (first | exact ex_refl _ | exact ex_more | apply ex_alloc | apply ex_plus | apply ex_drew | apply ex_drewN)), by rw [prList_good he, show prTris ⟨1, ix⟩ = [] by rw [hl.zero]; rfl]; exact Lay.nil⟩
    · go_enter Try.func12, Try.ntmps12
      go_wp2
      refine wp_loop_rounds 1 ?_
      rw [rounds_succ]
      go_wp2
      refine wp_loop_rounds 1 ?_
      rw [rounds_succ]
      go_wp2
      exact bodyPost_ret (v := .tuple #[.slice none 0 0, .int .i64 0]) (by simp [results, Try.results12, go_sem]) rfl ⟨_, _, _, rfl, (by with_reducible repeat (first | exact ex_refl _ | exact ex_more | apply ex_alloc | apply ex_plus | apply ex_drew | apply ex_drewN)), by rw [prList_good he, show prTris ⟨2, ix⟩ = [] by rw [hl.zero]; rfl]; exact Lay.nil⟩
  have iw3 : IntKind.i64.wrap ((n : Int) - 3) = (n : Int) - 3 := wrap_le (by simp [lenOk] at h3; split at h3 <;> omega)
  have iw2 : IntKind.i64.wrap ((n : Int) - 2) = (n : Int) - 2 := wrap_le (by simp [lenOk] at h3; split at h3 <;> omega)
  have i03 : (0 : Int) ≤ (n : Int) - 3 := by simp [lenOk] at h3; split at h3 <;> omega
  have i12 : (1 : Int) ≤ (n : Int) - 2 := by omega
  have d1 : ((n : Int) == 1) = false := by rw [beq_eq_false_iff_ne]; omega
  have d2 : ((n : Int) == 2) = false := by rw [beq_eq_false_iff_ne]; omega
  rcases (show kind = 0 ∨ kind = 1 ∨ kind = 2 by omega) with rfl | rfl | rfl
  · have hz : (n : Int) % 3 = 0 := by simp [lenOk] at h3; omega
    go_enter Try.func12, Try.ntmps12
    go_wp2
    go_loopw [5, 6] (fun v i wr => ∃ (k : Nat) (ao' : Option Addr) (cap' : Nat), k ≤ n / 3 ∧ i = .int .i64 (3 * k : Nat) ∧ v = .slice ao' k cap' ∧ (∃ y, wr = plus (w.alloc (.cells #[.int .u8 0, .slice ao n cap] 28)) y) ∧ Own 34 3 fV (w.alloc (.cells #[.int .u8 0, .slice ao n cap] 28)) wr ao' k cap' (firsts (threeT ix) k)) (fun _ i _ => n + 2 - (intOf i).toNat)
    case atStart => exact ⟨0, none, 0, by omega, rfl, rfl, (by with_reducible repeat (first | exact ex_refl _ | exact ex_more | apply ex_alloc | apply ex_plus | apply ex_drew | apply ex_drewN)), own_nil⟩
    case round =>
      obtain ⟨k, ao', cap', hk, rfl, rfl, ⟨y, rfl⟩, hown⟩ := hrel
      obtain ⟨j, hj⟩ : ∃ j, 3 * k = j := ⟨_, rfl⟩
      rw [hj]
      by_cases hkl : j + 2 < n
      · obtain ⟨g, off, rfl, hg, hcell⟩ := hl.some (by omega)
        have c0 := cellI hl.len hcell (k := j) (by omega)
        have c1 := cellI hl.len hcell (k := j + 1) (by omega)
        have c2 := cellI hl.len hcell (k := j + 2) (by omega)
        have ik0 : (j : Int) < (n : Int) := by omega
        have ik1 : (j : Int) + 1 < (n : Int) := by omega
        have ip1 : (0 : Int) ≤ (j : Int) + 1 := by omega
        have iw1 : IntKind.i64.wrap ((j : Int) + 1) = (j : Int) + 1 := wrap_le (by omega)
        have it1 : ((j : Int) + 1).toNat = j + 1 := by omega
        have ik2 : (j : Int) + 2 < (n : Int) := by omega
        have ip2 : (0 : Int) ≤ (j : Int) + 2 := by omega
        have iw2 : IntKind.i64.wrap ((j : Int) + 2) = (j : Int) + 2 := wrap_le (by omega)
        have it2 : ((j : Int) + 2).toNat = j + 2 := by omega
        go_wp2
        go_region_held3 (fun w' => w'.cell? ⟨w.heap.size, 1, none⟩ = some (.slice (some ⟨g, off, none⟩) n cap) ∧ w'.cell? ⟨g, off + j, none⟩ = some (.int .i64 (nth 0 ix j)) ∧ w'.cell? ⟨g, off + (j + 1), none⟩ = some (.int .i64 (nth 0 ix (j + 1))) ∧ w'.cell? ⟨g, off + (j + 2), none⟩ = some (.int .i64 (nth 0 ix (j + 2)))) (first | (simp [go_sem, ↓IntWalk.iteOmega, c0, c1, c2]; done)) (first | (refine step_append_lay (T := (w.alloc (.cells #[.int .u8 0, .slice (some ⟨g, off, none⟩) n cap] 28))) rfl _ _ rfl kinT fV_c fV_1 rfl (by with_reducible repeat (first | exact ex_refl _ | exact ex_more | apply ex_alloc | apply ex_plus | apply ex_drew | apply ex_drewN)) (hown.ex (by with_reducible repeat (first | exact ex_refl _ | exact ex_more | apply ex_alloc | apply ex_plus | apply ex_drew | apply ex_drewN))) rfl (l2 := [threeT ix k]) ⟨rfl, .inr ⟨_, 0, rfl, by simp [go_sem]; try omega, fun jj u hu => by match jj, hu with | 0, hu => (simp [fV, threeT, hj] at hu; subst hu; simp [go_sem, ↓IntWalk.iteOmega]) | 1, hu => (simp [fV, threeT, hj] at hu; subst hu; simp [go_sem, ↓IntWalk.iteOmega]) | 2, hu => (simp [fV, threeT, hj] at hu; subst hu; simp [go_sem, ↓IntWalk.iteOmega]) | jj + 3, hu => simp [fV] at hu⟩⟩ (by omega) (by decide) ?_; intro ao' cap' y' hown'))
        go_wp2
        go_roundw
        case rel => exact ⟨k + 1, ao', cap', by omega, by subst hj; go_num, by subst hj; rfl, ⟨y', rfl⟩, by subst hj; rw [← firsts_succ]; exact hown'⟩
        case measure => simp [intOf]; omega
      · have ik : ¬ (j : Int) < (n : Int) := by omega
        obtain rfl : k = n / 3 := by omega
        go_wp2
        refine wp_loop_rounds 1 ?_
        rw [rounds_succ]
        go_wp2
        refine wp_loop_rounds 1 ?_
        rw [rounds_succ]
        go_wp2
        exact bodyPost_ret (v := .tuple #[.slice ao' (n / 3) cap', .int .i64 0]) (by simp [results, Try.results12, go_sem]) rfl ⟨_, _, _, rfl, (by with_reducible repeat (first | exact ex_refl _ | exact ex_more | apply ex_alloc | apply ex_plus | apply ex_drew | apply ex_drewN)), by rw [prList_good he, show prTris ⟨0, ix⟩ = firsts (threeT ix) (n / 3) by rw [← hlen]; rfl]; exact hown.lay⟩
  · go_enter Try.func12, Try.ntmps12
    go_wp2
    go_loopw [5, 7] (fun v i wr => ∃ (k : Nat) (ao' : Option Addr) (cap' : Nat), k ≤ n - 2 ∧ i = .int .i64 (k : Nat) ∧ v = .slice ao' k cap' ∧ (∃ y, wr = plus (w.alloc (.cells #[.int .u8 1, .slice ao n cap] 28)) y) ∧ Own 34 3 fV (w.alloc (.cells #[.int .u8 1, .slice ao n cap] 28)) wr ao' k cap' (firsts (stripT ix) k)) (fun _ i _ => n + 2 - (intOf i).toNat)
    case atStart => exact ⟨0, none, 0, by omega, rfl, rfl, (by with_reducible repeat (first | exact ex_refl _ | exact ex_more | apply ex_alloc | apply ex_plus | apply ex_drew | apply ex_drewN)), own_nil⟩
    case round =>
      obtain ⟨k, ao', cap', hk, rfl, rfl, ⟨y, rfl⟩, hown⟩ := hrel
      obtain ⟨j, hj⟩ : ∃ j, k = j := ⟨_, rfl⟩
      rw [hj]
      by_cases hkl : j + 2 < n
      · obtain ⟨g, off, rfl, hg, hcell⟩ := hl.some (by omega)
        have c0 := cellI hl.len hcell (k := j) (by omega)
        have c1 := cellI hl.len hcell (k := j + 1) (by omega)
        have c2 := cellI hl.len hcell (k := j + 2) (by omega)
        have ik0 : (j : Int) < (n : Int) := by omega
        have ik1 : (j : Int) + 1 < (n : Int) := by omega
        have ip1 : (0 : Int) ≤ (j : Int) + 1 := by omega
        have iw1 : IntKind.i64.wrap ((j : Int) + 1) = (j : Int) + 1 := wrap_le (by omega)
        have it1 : ((j : Int) + 1).toNat = j + 1 := by omega
        have ik2 : (j : Int) + 2 < (n : Int) := by omega
        have ip2 : (0 : Int) ≤ (j : Int) + 2 := by omega
        have iw2 : IntKind.i64.wrap ((j : Int) + 2) = (j : Int) + 2 := wrap_le (by omega)
        have it2 : ((j : Int) + 2).toNat = j + 2 := by omega
        have iq : (j : Int) ≤ (n : Int) - 3 := by omega
        subst hj
        by_cases np : k % 2 = 1
        · have ie : (k : Int) % 2 = 1 := by omega
          go_wp2_with (at_builtin; (refine wpList_append_lay (T := (w.alloc (.cells #[.int .u8 1, .slice (some ⟨g, off, none⟩) n cap] 28))) rfl _ _ rfl kinT fV_c fV_1 rfl (by with_reducible repeat (first | exact ex_refl _ | exact ex_more | apply ex_alloc | apply ex_plus | apply ex_drew | apply ex_drewN)) (hown.ex (by with_reducible repeat (first | exact ex_refl _ | exact ex_more | apply ex_alloc | apply ex_plus | apply ex_drew | apply ex_drewN))) rfl (l2 := [stripT ix k]) ⟨rfl, .inr ⟨_, 0, rfl, by simp [go_sem]; try omega, fun jj u hu => by match jj, hu with | 0, hu => (simp [fV, stripT, np] at hu; subst hu; simp [go_sem, ↓IntWalk.iteOmega]) | 1, hu => (simp [fV, stripT, np] at hu; subst hu; simp [go_sem, ↓IntWalk.iteOmega]) | 2, hu => (simp [fV, stripT, np] at hu; subst hu; simp [go_sem, ↓IntWalk.iteOmega]) | jj + 3, hu => simp [fV] at hu⟩⟩ (by omega) (by decide) ?_; intro ao' cap' y' hown'))
          go_roundw
          case rel => exact ⟨k + 1, ao', cap', by omega, by go_num, by rfl, ⟨y', rfl⟩, by rw [← firsts_succ]; exact hown'⟩
          case measure => simp [intOf]; omega
        · have ie : ¬ (k : Int) % 2 = 1 := by omega
          go_wp2_with (at_builtin; (refine wpList_append_lay (T := (w.alloc (.cells #[.int .u8 1, .slice (some ⟨g, off, none⟩) n cap] 28))) rfl _ _ rfl kinT fV_c fV_1 rfl (by with_reducible repeat (first | exact ex_refl _ | exact ex_more | apply ex_alloc | apply ex_plus | apply ex_drew | apply ex_drewN)) (hown.ex (by with_reducible repeat (first | exact ex_refl _ | exact ex_more | apply ex_alloc | apply ex_plus | apply ex_drew | apply ex_drewN))) rfl (l2 := [stripT ix k]) ⟨rfl, .inr ⟨_, 0, rfl, by simp [go_sem]; try omega, fun jj u hu => by match jj, hu with | 0, hu => (simp [fV, stripT, np] at hu; subst hu; simp [go_sem, ↓IntWalk.iteOmega]) | 1, hu => (simp [fV, stripT, np] at hu; subst hu; simp [go_sem, ↓IntWalk.iteOmega]) | 2, hu => (simp [fV, stripT, np] at hu; subst hu; simp [go_sem, ↓IntWalk.iteOmega]) | jj + 3, hu => simp [fV] at hu⟩⟩ (by omega) (by decide) ?_; intro ao' cap' y' hown'))
          go_roundw
          case rel => exact ⟨k + 1, ao', cap', by omega, by go_num, by rfl, ⟨y', rfl⟩, by rw [← firsts_succ]; exact hown'⟩
          case measure => simp [intOf]; omega
      · have ik : ¬ (j : Int) ≤ (n : Int) - 3 := by omega
        subst hj; obtain rfl : k = n - 2 := by omega
        go_wp2
        refine wp_loop_rounds 1 ?_
        rw [rounds_succ]
        go_wp2
        exact bodyPost_ret (v := .tuple #[.slice ao' (n - 2) cap', .int .i64 0]) (by simp [results, Try.results12, go_sem]) rfl ⟨_, _, _, rfl, (by with_reducible repeat (first | exact ex_refl _ | exact ex_more | apply ex_alloc | apply ex_plus | apply ex_drew | apply ex_drewN)), by rw [prList_good he, show prTris ⟨1, ix⟩ = firsts (stripT ix) (n - 2) by rw [← hlen]; rfl]; exact hown.lay⟩
  · go_enter Try.func12, Try.ntmps12
    go_wp2
    refine wp_loop_rounds 1 ?_
    rw [rounds_succ]
    go_wp2
    go_loopw [5, 10] (fun v i wr => ∃ (k : Nat) (ao' : Option Addr) (cap' : Nat), k ≤ n - 2 ∧ i = .int .i64 (k + 1 : Nat) ∧ v = .slice ao' k cap' ∧ (∃ y, wr = plus (w.alloc (.cells #[.int .u8 2, .slice ao n cap] 28)) y) ∧ Own 34 3 fV (w.alloc (.cells #[.int .u8 2, .slice ao n cap] 28)) wr ao' k cap' (firsts (fanT ix) k)) (fun _ i _ => n + 2 - (intOf i).toNat)
    case atStart => exact ⟨0, none, 0, by omega, rfl, rfl, (by with_reducible repeat (first | exact ex_refl _ | exact ex_more | apply ex_alloc | apply ex_plus | apply ex_drew | apply ex_drewN)), own_nil⟩
    case round =>
      obtain ⟨k, ao', cap', hk, rfl, rfl, ⟨y, rfl⟩, hown⟩ := hrel
      obtain ⟨j, hj⟩ : ∃ j, k + 1 = j := ⟨_, rfl⟩
      rw [hj]
      by_cases hkl : j + 1 < n
      · obtain ⟨g, off, rfl, hg, hcell⟩ := hl.some (by omega)
        have z0 := cellI hl.len hcell (k := 0) (by omega)
        rw [Nat.add_zero] at z0
        have c0 := cellI hl.len hcell (k := j) (by omega)
        have c1 := cellI hl.len hcell (k := j + 1) (by omega)
        have iq : (j : Int) ≤ (n : Int) - 2 := by omega
        have iz : (0 : Int) < (n : Int) := by omega
        have iz1 : 0 < n := by omega
        have iz2 : ¬ n = 0 := by omega
        have iz3 : ¬ (n : Int) ≤ 0 := by omega
        have ik0 : (j : Int) < (n : Int) := by omega
        have ik1 : (j : Int) + 1 < (n : Int) := by omega
        have ip1 : (0 : Int) ≤ (j : Int) + 1 := by omega
        have iw1 : IntKind.i64.wrap ((j : Int) + 1) = (j : Int) + 1 := wrap_le (by omega)
        have it1 : ((j : Int) + 1).toNat = j + 1 := by omega
        go_wp2
        go_region_held3 (fun w' => w'.cell? ⟨w.heap.size, 1, none⟩ = some (.slice (some ⟨g, off, none⟩) n cap) ∧ w'.cell? ⟨g, off, none⟩ = some (.int .i64 (nth 0 ix 0)) ∧ w'.cell? ⟨g, off + j, none⟩ = some (.int .i64 (nth 0 ix j)) ∧ w'.cell? ⟨g, off + (j + 1), none⟩ = some (.int .i64 (nth 0 ix (j + 1)))) (first | (simp [go_sem, ↓IntWalk.iteOmega, z0, c0, c1]; done)) (first | (refine step_append_lay (T := (w.alloc (.cells #[.int .u8 2, .slice (some ⟨g, off, none⟩) n cap] 28))) rfl _ _ rfl kinT fV_c fV_1 rfl (by with_reducible repeat (first | exact ex_refl _ | exact ex_more | apply ex_alloc | apply ex_plus | apply ex_drew | apply ex_drewN)) (hown.ex (by with_reducible repeat (first | exact ex_refl _ | exact ex_more | apply ex_alloc | apply ex_plus | apply ex_drew | apply ex_drewN))) rfl (l2 := [fanT ix k]) ⟨rfl, .inr ⟨_, 0, rfl, by simp [go_sem]; try omega, fun jj u hu => by match jj, hu with | 0, hu => (simp [fV, fanT, show k + 1 = j from hj, show k + 2 = j + 1 by omega] at hu; subst hu; simp [go_sem, ↓IntWalk.iteOmega]) | 1, hu => (simp [fV, fanT, show k + 1 = j from hj, show k + 2 = j + 1 by omega] at hu; subst hu; simp [go_sem, ↓IntWalk.iteOmega]) | 2, hu => (simp [fV, fanT, show k + 1 = j from hj, show k + 2 = j + 1 by omega] at hu; subst hu; simp [go_sem, ↓IntWalk.iteOmega]) | jj + 3, hu => simp [fV] at hu⟩⟩ (by omega) (by decide) ?_; intro ao' cap' y' hown'))
        go_wp2
        go_roundw
        case rel => exact ⟨k + 1, ao', cap', by omega, by subst hj; go_num, by subst hj; rfl, ⟨y', rfl⟩, by subst hj; rw [← firsts_succ]; exact hown'⟩
        case measure => simp [intOf]; omega
      · have ik : ¬ (j : Int) ≤ (n : Int) - 2 := by omega
        obtain rfl : k = n - 2 := by omega
        go_wp2
        exact bodyPost_ret (v := .tuple #[.slice ao' (n - 2) cap', .int .i64 0]) (by simp [results, Try.results12, go_sem]) rfl ⟨_, _, _, rfl, (by with_reducible repeat (first | exact ex_refl _ | exact ex_more | apply ex_alloc | apply ex_plus | apply ex_drew | apply ex_drewN)), by rw [prList_good he, show prTris ⟨2, ix⟩ = firsts (fanT ix) (n - 2) by rw [← hlen]; rfl]; exact hown.lay⟩

theorem rprim_calls (kind : Int) (ao : Option Addr) (n cap : Nat) (ix : List Int) (w : World) (h0 : 0 ≤ kind) (hl : Lay fI w ao n ix) (hn : n ≤ 9223372036854775807) :
    Calls Try.prog 12 #[.agg #[.int .u8 kind, .slice ao n cap]] w fun e w' => RetT fV w (prList ⟨kind, ix⟩) (.int .i64 (prErr ⟨kind, ix⟩)) e w' := by
  by_cases he : prErr ⟨kind, ix⟩ = 0
  · exact rprim_good kind ao n cap ix w h0 hl he
  · exact rprim_bad kind ao n cap ix w h0 hl hn he

end Go.Proofs.Ytkiahgkfgcjkgaa
