/- A pack of texts: Mesh3, Mesh7, MeshMath3, Mesh11. -/
import Derived.Test.YtcekcihijdipoaaGreatPM8
import Derived.Test.YtcekcihijdipoaaGreatPM1
import Derived.Test.YtcekcihijdipoaaGreatPM6
namespace Go.Proofs.YtcekcihijdipoaaGreat

section


open Go.RowKit Go.ChangeShapes Go.WideShapes Go.ChangeAt

set_option linter.unusedSimpArgs false

set_option linter.unusedVariables false

attribute [local go_sem] plus_size plus_drew dn_set dn_alloc dn_plus plus_dn cell_plus frozen_plus set_plus cell_alloc frozen_alloc set_alloc

theorem lengthMay_calls (kind : Int) (n : Nat) (w : World) (h0 : 0 ≤ kind) (h2 : kind ≤ 2) (hn : n ≤ 10000) :
    Calls Tryz.prog 181 #[.int .u8 kind, .int .i64 n] w fun e w' => e = .returned (.bool (lenOk kind n)) ∧ Below w.heap.size w w' := by
  rcases (show kind = 0 ∨ kind = 1 ∨ kind = 2 by omega) with rfl | rfl | rfl
  · by_cases h3 : n % 3 = 0
    · rw [show lenOk 0 n = true by simp [lenOk, h3]]
      have i3 : (n : Int) % 3 = 0 := by omega
      go_enter Tryz.func181, Tryz.ntmps181
      go_wp2
      go_ret
      exact ⟨rfl, by with_reducible repeat (first | exact Below.refl _ _ | apply ba | apply bp | apply bd | apply bn)⟩
    · rw [show lenOk 0 n = false by simp [lenOk, h3]]
      have i3 : ¬ (n : Int) % 3 = 0 := by omega
      have d3 : ((n : Int) % 3 == 0) = false := by simp [i3]
      go_enter Tryz.func181, Tryz.ntmps181
      go_wp2
      go_ret
      exact ⟨rfl, by with_reducible repeat (first | exact Below.refl _ _ | apply ba | apply bp | apply bd | apply bn)⟩
  · by_cases h3 : n = 0
    · subst h3
      rw [show lenOk 1 0 = true by simp [lenOk]]
      go_enter Tryz.func181, Tryz.ntmps181
      go_wp2
      go_ret
      exact ⟨rfl, by with_reducible repeat (first | exact Below.refl _ _ | apply ba | apply bp | apply bd | apply bn)⟩
    · by_cases h4 : 3 ≤ n
      · rw [show lenOk 1 n = true by simp [lenOk, h4]]
        have i3 : ¬ (n : Int) = 0 := by omega
        have d3 : ((n : Int) == 0) = false := by simp [h3]
        have i4 : (3 : Int) ≤ (n : Int) := by omega
        go_enter Tryz.func181, Tryz.ntmps181
        go_wp2
        go_ret
        exact ⟨rfl, by with_reducible repeat (first | exact Below.refl _ _ | apply ba | apply bp | apply bd | apply bn)⟩
      · rw [show lenOk 1 n = false by simp [lenOk, h3, h4]]
        have i3 : ¬ (n : Int) = 0 := by omega
        have d3 : ((n : Int) == 0) = false := by simp [h3]
        have i4 : ¬ (3 : Int) ≤ (n : Int) := by omega
        go_enter Tryz.func181, Tryz.ntmps181
        go_wp2
        go_ret
        exact ⟨rfl, by with_reducible repeat (first | exact Below.refl _ _ | apply ba | apply bp | apply bd | apply bn)⟩
  · by_cases h3 : n = 0
    · subst h3
      rw [show lenOk 2 0 = true by simp [lenOk]]
      go_enter Tryz.func181, Tryz.ntmps181
      go_wp2
      go_ret
      exact ⟨rfl, by with_reducible repeat (first | exact Below.refl _ _ | apply ba | apply bp | apply bd | apply bn)⟩
    · by_cases h4 : 3 ≤ n
      · rw [show lenOk 2 n = true by simp [lenOk, h4]]
        have i3 : ¬ (n : Int) = 0 := by omega
        have d3 : ((n : Int) == 0) = false := by simp [h3]
        have i4 : (3 : Int) ≤ (n : Int) := by omega
        go_enter Tryz.func181, Tryz.ntmps181
        go_wp2
        go_ret
        exact ⟨rfl, by with_reducible repeat (first | exact Below.refl _ _ | apply ba | apply bp | apply bd | apply bn)⟩
      · rw [show lenOk 2 n = false by simp [lenOk, h3, h4]]
        have i3 : ¬ (n : Int) = 0 := by omega
        have d3 : ((n : Int) == 0) = false := by simp [h3]
        have i4 : ¬ (3 : Int) ≤ (n : Int) := by omega
        go_enter Tryz.func181, Tryz.ntmps181
        go_wp2
        go_ret
        exact ⟨rfl, by with_reducible repeat (first | exact Below.refl _ _ | apply ba | apply bp | apply bd | apply bn)⟩

theorem triangles_calls (kind : Int) (ao : Option Addr) (n cap : Nat) (ix : List Int) (w : World) (hl : Lay fI w ao n ix) (hn : n ≤ 10000) :
    Calls Tryz.prog 182 #[.agg #[.int .u8 kind, .slice ao n cap]] w fun e w' => RetL fV w (prTris ⟨kind, ix⟩) e w' := by
  have hlen := hl.len
  by_cases h1 : kind = 1
  · subst h1
    go_enter Tryz.func182, Tryz.ntmps182
    go_wp2_with (first | (go_at_call 191; refine (stripOf_calls _ _ _ _ _ (hl.ex (by with_reducible repeat (first | exact ex_refl _ | exact ex_moreM | apply ex_alloc | apply ex_plus | apply ex_drew | apply ex_drewN))) hn).mono ?_; rintro e w' ⟨ao1, cap1, rfl, ⟨yao1, rfl⟩, hl1⟩) | (go_at_call 192; refine (fanOf_calls _ _ _ _ _ (hl.ex (by with_reducible repeat (first | exact ex_refl _ | exact ex_moreM | apply ex_alloc | apply ex_plus | apply ex_drew | apply ex_drewN))) hn).mono ?_; rintro e w' ⟨ao1, cap1, rfl, ⟨yao1, rfl⟩, hl1⟩) | (go_at_call 193; refine (threesOf_calls _ _ _ _ _ (hl.ex (by with_reducible repeat (first | exact ex_refl _ | exact ex_moreM | apply ex_alloc | apply ex_plus | apply ex_drew | apply ex_drewN))) hn).mono ?_; rintro e w' ⟨ao1, cap1, rfl, ⟨yao1, rfl⟩, hl1⟩))
    go_ret
    exact ⟨_, _, _, rfl, (by with_reducible repeat (first | exact ex_refl _ | exact ex_moreM | apply ex_alloc | apply ex_plus | apply ex_drew | apply ex_drewN)), by rw [show prTris ⟨1, ix⟩ = firsts (stripT ix) (n - 2) by rw [← hlen]; rfl]; exact hl1.lay⟩
  · by_cases h2 : kind = 2
    · subst h2
      go_enter Tryz.func182, Tryz.ntmps182
      go_wp2_with (first | (go_at_call 191; refine (stripOf_calls _ _ _ _ _ (hl.ex (by with_reducible repeat (first | exact ex_refl _ | exact ex_moreM | apply ex_alloc | apply ex_plus | apply ex_drew | apply ex_drewN))) hn).mono ?_; rintro e w' ⟨ao1, cap1, rfl, ⟨yao1, rfl⟩, hl1⟩) | (go_at_call 192; refine (fanOf_calls _ _ _ _ _ (hl.ex (by with_reducible repeat (first | exact ex_refl _ | exact ex_moreM | apply ex_alloc | apply ex_plus | apply ex_drew | apply ex_drewN))) hn).mono ?_; rintro e w' ⟨ao1, cap1, rfl, ⟨yao1, rfl⟩, hl1⟩) | (go_at_call 193; refine (threesOf_calls _ _ _ _ _ (hl.ex (by with_reducible repeat (first | exact ex_refl _ | exact ex_moreM | apply ex_alloc | apply ex_plus | apply ex_drew | apply ex_drewN))) hn).mono ?_; rintro e w' ⟨ao1, cap1, rfl, ⟨yao1, rfl⟩, hl1⟩))
      go_ret
      exact ⟨_, _, _, rfl, (by with_reducible repeat (first | exact ex_refl _ | exact ex_moreM | apply ex_alloc | apply ex_plus | apply ex_drew | apply ex_drewN)), by rw [show prTris ⟨2, ix⟩ = firsts (fanT ix) (n - 2) by rw [← hlen]; rfl]; exact hl1.lay⟩
    go_enter Tryz.func182, Tryz.ntmps182
    go_wp2_with (first | (go_at_call 191; refine (stripOf_calls _ _ _ _ _ (hl.ex (by with_reducible repeat (first | exact ex_refl _ | exact ex_moreM | apply ex_alloc | apply ex_plus | apply ex_drew | apply ex_drewN))) hn).mono ?_; rintro e w' ⟨ao1, cap1, rfl, ⟨yao1, rfl⟩, hl1⟩) | (go_at_call 192; refine (fanOf_calls _ _ _ _ _ (hl.ex (by with_reducible repeat (first | exact ex_refl _ | exact ex_moreM | apply ex_alloc | apply ex_plus | apply ex_drew | apply ex_drewN))) hn).mono ?_; rintro e w' ⟨ao1, cap1, rfl, ⟨yao1, rfl⟩, hl1⟩) | (go_at_call 193; refine (threesOf_calls _ _ _ _ _ (hl.ex (by with_reducible repeat (first | exact ex_refl _ | exact ex_moreM | apply ex_alloc | apply ex_plus | apply ex_drew | apply ex_drewN))) hn).mono ?_; rintro e w' ⟨ao1, cap1, rfl, ⟨yao1, rfl⟩, hl1⟩))
    go_ret
    exact ⟨_, _, _, rfl, (by with_reducible repeat (first | exact ex_refl _ | exact ex_moreM | apply ex_alloc | apply ex_plus | apply ex_drew | apply ex_drewN)), by rw [show prTris ⟨kind, ix⟩ = firsts (threeT ix) (n / 3) by rw [← hlen]; exact (if_neg h1).trans (if_neg h2)]; exact hl1.lay⟩

theorem mprim_calls (kind : Int) (ao : Option Addr) (n cap : Nat) (ix : List Int) (w : World) (h0 : 0 ≤ kind) (hl : Lay fI w ao n ix) (hn : n ≤ 9223372036854775807) :
    Calls Tryz.prog 173 #[.agg #[.int .u8 kind, .slice ao n cap]] w fun e w' => RetT fV w (prList ⟨kind, ix⟩) (.int .i64 (prErr ⟨kind, ix⟩)) e w' := by
  have hlen := hl.len
  by_cases h1 : 2 < kind
  · have he := prErr_kind (ix := ix) h1
    rw [he]
    go_enter Tryz.func173, Tryz.ntmps173
    go_wp2_with (first | (go_at_call 181; refine (plus_post (lengthMay_calls _ _ _ h0 (by omega) (by omega))).mono ?_; rintro e w' ⟨rfl, nx, rfl⟩) | (go_at_call 182; refine (triangles_calls _ _ _ _ _ _ (hl.ex (by with_reducible repeat (first | exact ex_refl _ | exact ex_moreM | apply ex_alloc | apply ex_plus | apply ex_drew | apply ex_drewN))) (by omega)).mono ?_; rintro e w' ⟨ao1, m1, cap1, rfl, ⟨yao1, rfl⟩, hl1⟩))
    exact bodyPost_ret (v := .tuple #[.slice none 0 0, .int .i64 2]) (by simp [results, Tryz.results173, go_sem]) rfl ⟨_, _, _, rfl, (by with_reducible repeat (first | exact ex_refl _ | exact ex_moreM | apply ex_alloc | apply ex_plus | apply ex_drew | apply ex_drewN)), by rw [prList_bad (by rw [he]; decide)]; exact Lay.nil⟩
  by_cases h2 : 200 < n
  · have he := prErr_many (ix := ix) h1 (by omega)
    rw [he]
    have i2 : (200 : Int) < (n : Int) := by omega
    go_enter Tryz.func173, Tryz.ntmps173
    go_wp2_with (first | (go_at_call 181; refine (plus_post (lengthMay_calls _ _ _ h0 (by omega) (by omega))).mono ?_; rintro e w' ⟨rfl, nx, rfl⟩) | (go_at_call 182; refine (triangles_calls _ _ _ _ _ _ (hl.ex (by with_reducible repeat (first | exact ex_refl _ | exact ex_moreM | apply ex_alloc | apply ex_plus | apply ex_drew | apply ex_drewN))) (by omega)).mono ?_; rintro e w' ⟨ao1, m1, cap1, rfl, ⟨yao1, rfl⟩, hl1⟩))
    exact bodyPost_ret (v := .tuple #[.slice none 0 0, .int .i64 4]) (by simp [results, Tryz.results173, go_sem]) rfl ⟨_, _, _, rfl, (by with_reducible repeat (first | exact ex_refl _ | exact ex_moreM | apply ex_alloc | apply ex_plus | apply ex_drew | apply ex_drewN)), by rw [prList_bad (by rw [he]; decide)]; exact Lay.nil⟩
  have i2 : ¬ (200 : Int) < (n : Int) := by omega
  cases h3 : lenOk kind n
  · have he := prErr_bad (ix := ix) h1 (by omega) (by rw [hlen]; exact h3)
    rw [he]
    go_enter Tryz.func173, Tryz.ntmps173
    go_wp2_with (first | (go_at_call 181; refine (plus_post (lengthMay_calls _ _ _ h0 (by omega) (by omega))).mono ?_; rintro e w' ⟨rfl, nx, rfl⟩) | (go_at_call 182; refine (triangles_calls _ _ _ _ _ _ (hl.ex (by with_reducible repeat (first | exact ex_refl _ | exact ex_moreM | apply ex_alloc | apply ex_plus | apply ex_drew | apply ex_drewN))) (by omega)).mono ?_; rintro e w' ⟨ao1, m1, cap1, rfl, ⟨yao1, rfl⟩, hl1⟩))
    exact bodyPost_ret (v := .tuple #[.slice none 0 0, .int .i64 40]) (by simp [results, Tryz.results173, go_sem]) rfl ⟨_, _, _, rfl, (by with_reducible repeat (first | exact ex_refl _ | exact ex_moreM | apply ex_alloc | apply ex_plus | apply ex_drew | apply ex_drewN)), by rw [prList_bad (by rw [he]; decide)]; exact Lay.nil⟩
  · have he := prErr_good (ix := ix) h1 (by omega) (by rw [hlen]; exact h3)
    rw [he]
    go_enter Tryz.func173, Tryz.ntmps173
    go_wp2_with (first | (go_at_call 181; refine (plus_post (lengthMay_calls _ _ _ h0 (by omega) (by omega))).mono ?_; rintro e w' ⟨rfl, nx, rfl⟩) | (go_at_call 182; refine (triangles_calls _ _ _ _ _ _ (hl.ex (by with_reducible repeat (first | exact ex_refl _ | exact ex_moreM | apply ex_alloc | apply ex_plus | apply ex_drew | apply ex_drewN))) (by omega)).mono ?_; rintro e w' ⟨ao1, m1, cap1, rfl, ⟨yao1, rfl⟩, hl1⟩))
    exact bodyPost_ret (v := .tuple #[.slice ao1 m1 cap1, .int .i64 0]) (by simp [results, Tryz.results173, go_sem]) rfl ⟨_, _, _, rfl, (by with_reducible repeat (first | exact ex_refl _ | exact ex_moreM | apply ex_alloc | apply ex_plus | apply ex_drew | apply ex_drewN)), by rw [prList_good he]; exact hl1⟩

end

section


open Go.RowKit Go.ChangeShapes Go.WideShapes Go.ChangeAt

set_option linter.unusedSimpArgs false

set_option linter.unusedVariables false

attribute [local go_sem] plus_size plus_drew dn_set dn_alloc dn_plus plus_dn cell_plus frozen_plus set_plus cell_alloc frozen_alloc set_alloc

attribute [local go_sem] eqarr_40 nearr_40 larr_40

attribute [local go_sem] eqarr_137 nearr_137 larr_137

attribute [local go_sem] isnil_47

attribute [local go_sem] isnil_57

attribute [local go_sem] isnil_58

attribute [local go_sem] isnil_59

set_option maxRecDepth 100000 in
set_option maxHeartbeats 4000000 in
theorem rprim_bad (kind : Int) (ao : Option Addr) (n cap : Nat) (ix : List Int) (w : World) (h0 : 0 ≤ kind) (hl : Lay fI w ao n ix) (hn : n ≤ 9223372036854775807) (hb : prErr ⟨kind, ix⟩ ≠ 0) :
    Calls Tryz.prog 194 #[.agg #[.int .u8 kind, .slice ao n cap]] w fun e w' => RetT fV w (prList ⟨kind, ix⟩) (.int .i64 (prErr ⟨kind, ix⟩)) e w' := by
  have hlen := hl.len
  by_cases h1 : 2 < kind
  · have he := prErr_kind (ix := ix) h1
    rw [he]
    go_enter Tryz.func194, Tryz.ntmps194
    go_wp2
    exact bodyPost_ret (v := .tuple #[.slice none 0 0, .int .i64 2]) (by simp [results, Tryz.results194, go_sem]) rfl ⟨_, _, _, rfl, (by with_reducible repeat (first | exact ex_refl _ | exact ex_moreM | apply ex_alloc | apply ex_plus | apply ex_drew | apply ex_drewN)), by rw [prList_bad (by rw [he]; decide)]; exact Lay.nil⟩
  by_cases h2 : 200 < n
  · have he := prErr_many (ix := ix) h1 (by omega)
    rw [he]
    have i2 : (200 : Int) < (n : Int) := by omega
    go_enter Tryz.func194, Tryz.ntmps194
    go_wp2
    exact bodyPost_ret (v := .tuple #[.slice none 0 0, .int .i64 4]) (by simp [results, Tryz.results194, go_sem]) rfl ⟨_, _, _, rfl, (by with_reducible repeat (first | exact ex_refl _ | exact ex_moreM | apply ex_alloc | apply ex_plus | apply ex_drew | apply ex_drewN)), by rw [prList_bad (by rw [he]; decide)]; exact Lay.nil⟩
  have i2 : ¬ (200 : Int) < (n : Int) := by omega
  cases h3 : lenOk kind n
  · have he := prErr_bad (ix := ix) h1 (by omega) (by rw [hlen]; exact h3)
    rw [he]
    rcases (show kind = 0 ∨ kind = 1 ∨ kind = 2 by omega) with rfl | rfl | rfl
    · have hz : ¬ (n : Int) % 3 = 0 := by simp [lenOk] at h3; omega
      go_enter Tryz.func194, Tryz.ntmps194
      go_wp2
      exact bodyPost_ret (v := .tuple #[.slice none 0 0, .int .i64 40]) (by simp [results, Tryz.results194, go_sem]) rfl ⟨_, _, _, rfl, (by with_reducible repeat (first | exact ex_refl _ | exact ex_moreM | apply ex_alloc | apply ex_plus | apply ex_drew | apply ex_drewN)), by rw [prList_bad (by rw [he]; decide)]; exact Lay.nil⟩
    · have hz : n = 1 ∨ n = 2 := by simp [lenOk] at h3; omega
      rcases hz with rfl | rfl
      · go_enter Tryz.func194, Tryz.ntmps194
        go_wp2
        exact bodyPost_ret (v := .tuple #[.slice none 0 0, .int .i64 40]) (by simp [results, Tryz.results194, go_sem]) rfl ⟨_, _, _, rfl, (by with_reducible repeat (first | exact ex_refl _ | exact ex_moreM | apply ex_alloc | apply ex_plus | apply ex_drew | apply ex_drewN)), by rw [prList_bad (by rw [he]; decide)]; exact Lay.nil⟩
      · go_enter Tryz.func194, Tryz.ntmps194
        go_wp2
        exact bodyPost_ret (v := .tuple #[.slice none 0 0, .int .i64 40]) (by simp [results, Tryz.results194, go_sem]) rfl ⟨_, _, _, rfl, (by with_reducible repeat (first | exact ex_refl _ | exact ex_moreM | apply ex_alloc | apply ex_plus | apply ex_drew | apply ex_drewN)), by rw [prList_bad (by rw [he]; decide)]; exact Lay.nil⟩
    · have hz : n = 1 ∨ n = 2 := by simp [lenOk] at h3; omega
      rcases hz with rfl | rfl
      · go_enter Tryz.func194, Tryz.ntmps194
        go_wp2
        exact bodyPost_ret (v := .tuple #[.slice none 0 0, .int .i64 40]) (by simp [results, Tryz.results194, go_sem]) rfl ⟨_, _, _, rfl, (by with_reducible repeat (first | exact ex_refl _ | exact ex_moreM | apply ex_alloc | apply ex_plus | apply ex_drew | apply ex_drewN)), by rw [prList_bad (by rw [he]; decide)]; exact Lay.nil⟩
      · go_enter Tryz.func194, Tryz.ntmps194
        go_wp2
        exact bodyPost_ret (v := .tuple #[.slice none 0 0, .int .i64 40]) (by simp [results, Tryz.results194, go_sem]) rfl ⟨_, _, _, rfl, (by with_reducible repeat (first | exact ex_refl _ | exact ex_moreM | apply ex_alloc | apply ex_plus | apply ex_drew | apply ex_drewN)), by rw [prList_bad (by rw [he]; decide)]; exact Lay.nil⟩
  · exact absurd (prErr_good (ix := ix) h1 (by omega) (by rw [hlen]; exact h3)) hb

set_option maxRecDepth 100000 in
set_option maxHeartbeats 4000000 in
theorem rprim_good (kind : Int) (ao : Option Addr) (n cap : Nat) (ix : List Int) (w : World) (h0 : 0 ≤ kind) (hl : Lay fI w ao n ix) (he : prErr ⟨kind, ix⟩ = 0) :
    Calls Tryz.prog 194 #[.agg #[.int .u8 kind, .slice ao n cap]] w fun e w' => RetT fV w (prList ⟨kind, ix⟩) (.int .i64 (prErr ⟨kind, ix⟩)) e w' := by
  have hlen := hl.len
  rw [he]
  have h1 : ¬ 2 < kind := fun h => by rw [prErr_kind h] at he; cases he
  have h2 : ¬ 200 < ix.length := fun h => by rw [prErr_many h1 h] at he; cases he
  have h3 : lenOk kind n = true := by
    rw [← hlen]
    cases h : lenOk kind ix.length
    · rw [prErr_bad h1 h2 h] at he
      cases he
    · rfl
  rw [hlen] at h2
  have i2 : ¬ (200 : Int) < (n : Int) := by omega
  by_cases hn0 : n = 0
  · subst hn0
    rcases (show kind = 0 ∨ kind = 1 ∨ kind = 2 by omega) with rfl | rfl | rfl
    · go_enter Tryz.func194, Tryz.ntmps194
      go_wp2
      refine wp_loop_rounds 1 ?_
      rw [rounds_succ]
      go_wp2
      refine wp_loop_rounds 1 ?_
      rw [rounds_succ]
      go_wp2
      refine wp_loop_rounds 1 ?_
      rw [rounds_succ]
      go_wp2
      exact bodyPost_ret (v := .tuple #[.slice none 0 0, .int .i64 0]) (by simp [results, Tryz.results194, go_sem]) rfl ⟨_, _, _, rfl, (by with_reducible repeat (first | exact ex_refl _ | exact ex_moreM | apply ex_alloc | apply ex_plus | apply ex_drew | apply ex_drewN)), by rw [prList_good he, show prTris ⟨0, ix⟩ = [] by rw [hl.zero]; rfl]; exact Lay.nil⟩
    · go_enter Tryz.func194, Tryz.ntmps194
      go_wp2
      refine wp_loop_rounds 1 ?_
      rw [rounds_succ]
      go_wp2
      refine wp_loop_rounds 1 ?_
      rw [rounds_succ]
      go_wp2
      exact bodyPost_ret (v := .tuple #[.slice none 0 0, .int .i64 0]) (by simp [results, Tryz.results194, go_sem]) rfl ⟨_, _, _, rfl, (by with_reducible repeat (first | exact ex_refl _ | exact ex_moreM | apply ex_alloc | apply ex_plus | apply ex_drew | apply ex_drewN)), by rw [prList_good he, show prTris ⟨1, ix⟩ = [] by rw [hl.zero]; rfl]; exact Lay.nil⟩
    · go_enter Tryz.func194, Tryz.ntmps194
      go_wp2
      refine wp_loop_rounds 1 ?_
      rw [rounds_succ]
      go_wp2
      refine wp_loop_rounds 1 ?_
      rw [rounds_succ]
      go_wp2
      exact bodyPost_ret (v := .tuple #[.slice none 0 0, .int .i64 0]) (by simp [results, Tryz.results194, go_sem]) rfl ⟨_, _, _, rfl, (by with_reducible repeat (first | exact ex_refl _ | exact ex_moreM | apply ex_alloc | apply ex_plus | apply ex_drew | apply ex_drewN)), by rw [prList_good he, show prTris ⟨2, ix⟩ = [] by rw [hl.zero]; rfl]; exact Lay.nil⟩
  have iw3 : IntKind.i64.wrap ((n : Int) - 3) = (n : Int) - 3 := wrap_leM (by simp [lenOk] at h3; split at h3 <;> omega)
  have iw2 : IntKind.i64.wrap ((n : Int) - 2) = (n : Int) - 2 := wrap_leM (by simp [lenOk] at h3; split at h3 <;> omega)
  have i03 : (0 : Int) ≤ (n : Int) - 3 := by simp [lenOk] at h3; split at h3 <;> omega
  have i12 : (1 : Int) ≤ (n : Int) - 2 := by omega
  have d1 : ((n : Int) == 1) = false := by rw [beq_eq_false_iff_ne]; omega
  have d2 : ((n : Int) == 2) = false := by rw [beq_eq_false_iff_ne]; omega
  rcases (show kind = 0 ∨ kind = 1 ∨ kind = 2 by omega) with rfl | rfl | rfl
  · have hz : (n : Int) % 3 = 0 := by simp [lenOk] at h3; omega
    go_enter Tryz.func194, Tryz.ntmps194
    go_wp2
    go_loopw [5, 6] (fun v i wr => ∃ (k : Nat) (ao' : Option Addr) (cap' : Nat), k ≤ n / 3 ∧ i = .int .i64 (3 * k : Nat) ∧ v = .slice ao' k cap' ∧ (∃ y, wr = plus (w.alloc (.cells #[.int .u8 0, .slice ao n cap] 131)) y) ∧ Own 40 3 fV (w.alloc (.cells #[.int .u8 0, .slice ao n cap] 131)) wr ao' k cap' (firsts (threeT ix) k)) (fun _ i _ => n + 2 - (intOf i).toNat)
    case atStart => exact ⟨0, none, 0, by omega, rfl, rfl, (by with_reducible repeat (first | exact ex_refl _ | exact ex_moreM | apply ex_alloc | apply ex_plus | apply ex_drew | apply ex_drewN)), own_nil⟩
    case round =>
      obtain ⟨k, ao', cap', hk, rfl, rfl, ⟨y, rfl⟩, hown⟩ := hrel
      obtain ⟨j, hj⟩ : ∃ j, 3 * k = j := ⟨_, rfl⟩
      rw [hj]
      by_cases hkl : j + 2 < n
      · obtain ⟨g, off, rfl, hg, hcell⟩ := hl.some (by omega)
        have c0 := cellI hl.len hcell (k := j) (by omega)
        have c1 := cellI hl.len hcell (k := j + 1) (by omega)
        have c2 := cellI hl.len hcell (k := j + 2) (by omega)
        have ik0 : (j : Int) < (n : Int) := by omega
        have ik1 : (j : Int) + 1 < (n : Int) := by omega
        have ip1 : (0 : Int) ≤ (j : Int) + 1 := by omega
        have iw1 : IntKind.i64.wrap ((j : Int) + 1) = (j : Int) + 1 := wrap_leM (by omega)
        have it1 : ((j : Int) + 1).toNat = j + 1 := by omega
        have ik2 : (j : Int) + 2 < (n : Int) := by omega
        have ip2 : (0 : Int) ≤ (j : Int) + 2 := by omega
        have iw2 : IntKind.i64.wrap ((j : Int) + 2) = (j : Int) + 2 := wrap_leM (by omega)
        have it2 : ((j : Int) + 2).toNat = j + 2 := by omega
        go_wp2
        go_region_held3 (fun w' => w'.cell? ⟨w.heap.size, 1, none⟩ = some (.slice (some ⟨g, off, none⟩) n cap) ∧ w'.cell? ⟨g, off + j, none⟩ = some (.int .i64 (nth 0 ix j)) ∧ w'.cell? ⟨g, off + (j + 1), none⟩ = some (.int .i64 (nth 0 ix (j + 1))) ∧ w'.cell? ⟨g, off + (j + 2), none⟩ = some (.int .i64 (nth 0 ix (j + 2)))) (first | (simp [go_sem, ↓IntWalk.iteOmega, c0, c1, c2]; done)) (first | (refine step_append_lay (T := (w.alloc (.cells #[.int .u8 0, .slice (some ⟨g, off, none⟩) n cap] 131))) rfl _ _ rfl kinT fV_c fV_1 rfl (by with_reducible repeat (first | exact ex_refl _ | exact ex_moreM | apply ex_alloc | apply ex_plus | apply ex_drew | apply ex_drewN)) (hown.ex (by with_reducible repeat (first | exact ex_refl _ | exact ex_moreM | apply ex_alloc | apply ex_plus | apply ex_drew | apply ex_drewN))) rfl (l2 := [threeT ix k]) ⟨rfl, .inr ⟨_, 0, rfl, by simp [go_sem]; try omega, fun jj u hu => by match jj, hu with | 0, hu => (simp [fV, threeT, hj] at hu; subst hu; simp [go_sem, ↓IntWalk.iteOmega]) | 1, hu => (simp [fV, threeT, hj] at hu; subst hu; simp [go_sem, ↓IntWalk.iteOmega]) | 2, hu => (simp [fV, threeT, hj] at hu; subst hu; simp [go_sem, ↓IntWalk.iteOmega]) | jj + 3, hu => simp [fV] at hu⟩⟩ (by omega) (by decide) ?_; intro ao' cap' y' hown'))
        go_wp2
        go_roundw
        case rel => exact ⟨k + 1, ao', cap', by omega, by subst hj; go_num, by subst hj; rfl, ⟨y', rfl⟩, by subst hj; rw [← firsts_succ]; exact hown'⟩
        case measure => simp [intOf]; omega
      · have ik : ¬ (j : Int) < (n : Int) := by omega
        obtain rfl : k = n / 3 := by omega
        go_wp2
        refine wp_loop_rounds 1 ?_
        rw [rounds_succ]
        go_wp2
        refine wp_loop_rounds 1 ?_
        rw [rounds_succ]
        go_wp2
        exact bodyPost_ret (v := .tuple #[.slice ao' (n / 3) cap', .int .i64 0]) (by simp [results, Tryz.results194, go_sem]) rfl ⟨_, _, _, rfl, (by with_reducible repeat (first | exact ex_refl _ | exact ex_moreM | apply ex_alloc | apply ex_plus | apply ex_drew | apply ex_drewN)), by rw [prList_good he, show prTris ⟨0, ix⟩ = firsts (threeT ix) (n / 3) by rw [← hlen]; rfl]; exact hown.lay⟩
  · go_enter Tryz.func194, Tryz.ntmps194
    go_wp2
    go_loopw [5, 7] (fun v i wr => ∃ (k : Nat) (ao' : Option Addr) (cap' : Nat), k ≤ n - 2 ∧ i = .int .i64 (k : Nat) ∧ v = .slice ao' k cap' ∧ (∃ y, wr = plus (w.alloc (.cells #[.int .u8 1, .slice ao n cap] 131)) y) ∧ Own 40 3 fV (w.alloc (.cells #[.int .u8 1, .slice ao n cap] 131)) wr ao' k cap' (firsts (stripT ix) k)) (fun _ i _ => n + 2 - (intOf i).toNat)
    case atStart => exact ⟨0, none, 0, by omega, rfl, rfl, (by with_reducible repeat (first | exact ex_refl _ | exact ex_moreM | apply ex_alloc | apply ex_plus | apply ex_drew | apply ex_drewN)), own_nil⟩
    case round =>
      obtain ⟨k, ao', cap', hk, rfl, rfl, ⟨y, rfl⟩, hown⟩ := hrel
      obtain ⟨j, hj⟩ : ∃ j, k = j := ⟨_, rfl⟩
      rw [hj]
      by_cases hkl : j + 2 < n
      · obtain ⟨g, off, rfl, hg, hcell⟩ := hl.some (by omega)
        have c0 := cellI hl.len hcell (k := j) (by omega)
        have c1 := cellI hl.len hcell (k := j + 1) (by omega)
        have c2 := cellI hl.len hcell (k := j + 2) (by omega)
        have ik0 : (j : Int) < (n : Int) := by omega
        have ik1 : (j : Int) + 1 < (n : Int) := by omega
        have ip1 : (0 : Int) ≤ (j : Int) + 1 := by omega
        have iw1 : IntKind.i64.wrap ((j : Int) + 1) = (j : Int) + 1 := wrap_leM (by omega)
        have it1 : ((j : Int) + 1).toNat = j + 1 := by omega
        have ik2 : (j : Int) + 2 < (n : Int) := by omega
        have ip2 : (0 : Int) ≤ (j : Int) + 2 := by omega
        have iw2 : IntKind.i64.wrap ((j : Int) + 2) = (j : Int) + 2 := wrap_leM (by omega)
        have it2 : ((j : Int) + 2).toNat = j + 2 := by omega
        have iq : (j : Int) ≤ (n : Int) - 3 := by omega
        subst hj
        by_cases np : k % 2 = 1
        · have ie : (k : Int) % 2 = 1 := by omega
          go_wp2_with (at_builtin; (refine wpList_append_lay (T := (w.alloc (.cells #[.int .u8 1, .slice (some ⟨g, off, none⟩) n cap] 131))) rfl _ _ rfl kinT fV_c fV_1 rfl (by with_reducible repeat (first | exact ex_refl _ | exact ex_moreM | apply ex_alloc | apply ex_plus | apply ex_drew | apply ex_drewN)) (hown.ex (by with_reducible repeat (first | exact ex_refl _ | exact ex_moreM | apply ex_alloc | apply ex_plus | apply ex_drew | apply ex_drewN))) rfl (l2 := [stripT ix k]) ⟨rfl, .inr ⟨_, 0, rfl, by simp [go_sem]; try omega, fun jj u hu => by match jj, hu with | 0, hu => (simp [fV, stripT, np] at hu; subst hu; simp [go_sem, ↓IntWalk.iteOmega]) | 1, hu => (simp [fV, stripT, np] at hu; subst hu; simp [go_sem, ↓IntWalk.iteOmega]) | 2, hu => (simp [fV, stripT, np] at hu; subst hu; simp [go_sem, ↓IntWalk.iteOmega]) | jj + 3, hu => simp [fV] at hu⟩⟩ (by omega) (by decide) ?_; intro ao' cap' y' hown'))
          go_roundw
          case rel => exact ⟨k + 1, ao', cap', by omega, by go_num, by rfl, ⟨y', rfl⟩, by rw [← firsts_succ]; exact hown'⟩
          case measure => simp [intOf]; omega
        · have ie : ¬ (k : Int) % 2 = 1 := by omega
          go_wp2_with (at_builtin; (refine wpList_append_lay (T := (w.alloc (.cells #[.int .u8 1, .slice (some ⟨g, off, none⟩) n cap] 131))) rfl _ _ rfl kinT fV_c fV_1 rfl (by with_reducible repeat (first | exact ex_refl _ | exact ex_moreM | apply ex_alloc | apply ex_plus | apply ex_drew | apply ex_drewN)) (hown.ex (by with_reducible repeat (first | exact ex_refl _ | exact ex_moreM | apply ex_alloc | apply ex_plus | apply ex_drew | apply ex_drewN))) rfl (l2 := [stripT ix k]) ⟨rfl, .inr ⟨_, 0, rfl, by simp [go_sem]; try omega, fun jj u hu => by match jj, hu with | 0, hu => (simp [fV, stripT, np] at hu; subst hu; simp [go_sem, ↓IntWalk.iteOmega]) | 1, hu => (simp [fV, stripT, np] at hu; subst hu; simp [go_sem, ↓IntWalk.iteOmega]) | 2, hu => (simp [fV, stripT, np] at hu; subst hu; simp [go_sem, ↓IntWalk.iteOmega]) | jj + 3, hu => simp [fV] at hu⟩⟩ (by omega) (by decide) ?_; intro ao' cap' y' hown'))
          go_roundw
          case rel => exact ⟨k + 1, ao', cap', by omega, by go_num, by rfl, ⟨y', rfl⟩, by rw [← firsts_succ]; exact hown'⟩
          case measure => simp [intOf]; omega
      · have ik : ¬ (j : Int) ≤ (n : Int) - 3 := by omega
        subst hj; obtain rfl : k = n - 2 := by omega
        go_wp2
        refine wp_loop_rounds 1 ?_
        rw [rounds_succ]
        go_wp2
        exact bodyPost_ret (v := .tuple #[.slice ao' (n - 2) cap', .int .i64 0]) (by simp [results, Tryz.results194, go_sem]) rfl ⟨_, _, _, rfl, (by with_reducible repeat (first | exact ex_refl _ | exact ex_moreM | apply ex_alloc | apply ex_plus | apply ex_drew | apply ex_drewN)), by rw [prList_good he, show prTris ⟨1, ix⟩ = firsts (stripT ix) (n - 2) by rw [← hlen]; rfl]; exact hown.lay⟩
  · go_enter Tryz.func194, Tryz.ntmps194
    go_wp2
    refine wp_loop_rounds 1 ?_
    rw [rounds_succ]
    go_wp2
    go_loopw [5, 10] (fun v i wr => ∃ (k : Nat) (ao' : Option Addr) (cap' : Nat), k ≤ n - 2 ∧ i = .int .i64 (k + 1 : Nat) ∧ v = .slice ao' k cap' ∧ (∃ y, wr = plus (w.alloc (.cells #[.int .u8 2, .slice ao n cap] 131)) y) ∧ Own 40 3 fV (w.alloc (.cells #[.int .u8 2, .slice ao n cap] 131)) wr ao' k cap' (firsts (fanT ix) k)) (fun _ i _ => n + 2 - (intOf i).toNat)
    case atStart => exact ⟨0, none, 0, by omega, rfl, rfl, (by with_reducible repeat (first | exact ex_refl _ | exact ex_moreM | apply ex_alloc | apply ex_plus | apply ex_drew | apply ex_drewN)), own_nil⟩
    case round =>
      obtain ⟨k, ao', cap', hk, rfl, rfl, ⟨y, rfl⟩, hown⟩ := hrel
      obtain ⟨j, hj⟩ : ∃ j, k + 1 = j := ⟨_, rfl⟩
      rw [hj]
      by_cases hkl : j + 1 < n
      · obtain ⟨g, off, rfl, hg, hcell⟩ := hl.some (by omega)
        have z0 := cellI hl.len hcell (k := 0) (by omega)
        rw [Nat.add_zero] at z0
        have c0 := cellI hl.len hcell (k := j) (by omega)
        have c1 := cellI hl.len hcell (k := j + 1) (by omega)
        have iq : (j : Int) ≤ (n : Int) - 2 := by omega
        have iz : (0 : Int) < (n : Int) := by omega
        have iz1 : 0 < n := by omega
        have iz2 : ¬ n = 0 := by omega
        have iz3 : ¬ (n : Int) ≤ 0 := by omega
        have ik0 : (j : Int) < (n : Int) := by omega
        have ik1 : (j : Int) + 1 < (n : Int) := by omega
        have ip1 : (0 : Int) ≤ (j : Int) + 1 := by omega
        have iw1 : IntKind.i64.wrap ((j : Int) + 1) = (j : Int) + 1 := wrap_leM (by omega)
        have it1 : ((j : Int) + 1).toNat = j + 1 := by omega
        go_wp2
        go_region_held3 (fun w' => w'.cell? ⟨w.heap.size, 1, none⟩ = some (.slice (some ⟨g, off, none⟩) n cap) ∧ w'.cell? ⟨g, off, none⟩ = some (.int .i64 (nth 0 ix 0)) ∧ w'.cell? ⟨g, off + j, none⟩ = some (.int .i64 (nth 0 ix j)) ∧ w'.cell? ⟨g, off + (j + 1), none⟩ = some (.int .i64 (nth 0 ix (j + 1)))) (first | (simp [go_sem, ↓IntWalk.iteOmega, z0, c0, c1]; done)) (first | (refine step_append_lay (T := (w.alloc (.cells #[.int .u8 2, .slice (some ⟨g, off, none⟩) n cap] 131))) rfl _ _ rfl kinT fV_c fV_1 rfl (by with_reducible repeat (first | exact ex_refl _ | exact ex_moreM | apply ex_alloc | apply ex_plus | apply ex_drew | apply ex_drewN)) (hown.ex (by with_reducible repeat (first | exact ex_refl _ | exact ex_moreM | apply ex_alloc | apply ex_plus | apply ex_drew | apply ex_drewN))) rfl (l2 := [fanT ix k]) ⟨rfl, .inr ⟨_, 0, rfl, by simp [go_sem]; try omega, fun jj u hu => by match jj, hu with | 0, hu => (simp [fV, fanT, show k + 1 = j from hj, show k + 2 = j + 1 by omega] at hu; subst hu; simp [go_sem, ↓IntWalk.iteOmega]) | 1, hu => (simp [fV, fanT, show k + 1 = j from hj, show k + 2 = j + 1 by omega] at hu; subst hu; simp [go_sem, ↓IntWalk.iteOmega]) | 2, hu => (simp [fV, fanT, show k + 1 = j from hj, show k + 2 = j + 1 by omega] at hu; subst hu; simp [go_sem, ↓IntWalk.iteOmega]) | jj + 3, hu => simp [fV] at hu⟩⟩ (by omega) (by decide) ?_; intro ao' cap' y' hown'))
        go_wp2
        go_roundw
        case rel => exact ⟨k + 1, ao', cap', by omega, by subst hj; go_num, by subst hj; rfl, ⟨y', rfl⟩, by subst hj; rw [← firsts_succ]; exact hown'⟩
        case measure => simp [intOf]; omega
      · have ik : ¬ (j : Int) ≤ (n : Int) - 2 := by omega
        obtain rfl : k = n - 2 := by omega
        go_wp2
        exact bodyPost_ret (v := .tuple #[.slice ao' (n - 2) cap', .int .i64 0]) (by simp [results, Tryz.results194, go_sem]) rfl ⟨_, _, _, rfl, (by with_reducible repeat (first | exact ex_refl _ | exact ex_moreM | apply ex_alloc | apply ex_plus | apply ex_drew | apply ex_drewN)), by rw [prList_good he, show prTris ⟨2, ix⟩ = firsts (fanT ix) (n - 2) by rw [← hlen]; rfl]; exact hown.lay⟩

theorem rprim_calls (kind : Int) (ao : Option Addr) (n cap : Nat) (ix : List Int) (w : World) (h0 : 0 ≤ kind) (hl : Lay fI w ao n ix) (hn : n ≤ 9223372036854775807) :
    Calls Tryz.prog 194 #[.agg #[.int .u8 kind, .slice ao n cap]] w fun e w' => RetT fV w (prList ⟨kind, ix⟩) (.int .i64 (prErr ⟨kind, ix⟩)) e w' := by
  by_cases he : prErr ⟨kind, ix⟩ = 0
  · exact rprim_good kind ao n cap ix w h0 hl he
  · exact rprim_bad kind ao n cap ix w h0 hl hn he

end

section


open Go.RowKit

def vOk (v : V3) : Bool := [v.x, v.y, v.z].all (inR (-1024) 1024)

def uOk (p : Int × Int) : Bool := [p.1, p.2].all (inR 0 255)

def pOk (nv : Nat) (p : Pr) : Bool := decide (prErr p = 0) && p.ix.all (inR 0 ((nv : Int) - 1))

/-- the triangles of the first k primitives -/
def tris (ps : List Pr) (k : Nat) : List V3 := (ps.take k).flatMap prTris

def trisN (ps : List Pr) (k : Nat) : Nat := (tris ps k).length

def psOk (nv : Nat) (ps : List Pr) : Bool := ps.all (pOk nv) && decide (trisN ps ps.length ≤ 64)

def msOk (m : Ms) : Bool := m.vs.all vOk && m.uv.length == m.vs.length && m.uv.all uOk && psOk m.vs.length m.ps

def msMany (m : Ms) : Prop := 64 < m.vs.length ∨ 64 < m.uv.length ∨ 16 < m.ps.length

def msErr (m : Ms) : Int := if 64 < m.vs.length ∨ 64 < m.uv.length ∨ 16 < m.ps.length then 4 else if msOk m = true then 0 else 40

def msList (m : Ms) : List V3 := if msErr m = 0 then tris m.ps m.ps.length else []

theorem tris_succ {ps : List Pr} {k : Nat} (hk : k < ps.length) : tris ps (k + 1) = tris ps k ++ prTris (nth dPr ps k) := by
  unfold tris
  rw [take_nth (d := dPr) hk, List.flatMap_append]
  simp

theorem trisN_succ {ps : List Pr} {k : Nat} (hk : k < ps.length) : trisN ps (k + 1) = trisN ps k + (prTris (nth dPr ps k)).length := by
  unfold trisN
  rw [tris_succ hk, List.length_append]

theorem prTris_200 {p : Pr} (h : prErr p = 0) : (prTris p).length ≤ 200 := by
  have h1 := prTris_le p
  unfold prErr at h
  split at h
  · cases h
  · split at h
    · cases h
    · omega

theorem ix_200 {p : Pr} (h : prErr p = 0) : p.ix.length ≤ 200 := by
  unfold prErr at h
  split at h
  · cases h
  · split at h
    · cases h
    · omega

theorem trisN_le {ps : List Pr} : ∀ {k : Nat}, k ≤ ps.length → (∀ j, j < k → prErr (nth dPr ps j) = 0) → trisN ps k ≤ 200 * k
  | 0, _, _ => by simp [trisN, tris]
  | k + 1, hk, h => by
    rw [trisN_succ (by omega)]
    have h1 := trisN_le (k := k) (by omega) (fun j hj => h j (by omega))
    have h2 := prTris_200 (h k (by omega))
    omega

theorem pOk_err {nv : Nat} {p : Pr} (h : pOk nv p = true) : prErr p = 0 := by
  simp only [pOk, Bool.and_eq_true, decide_eq_true_eq] at h
  exact h.1

theorem pOk_not1 {nv : Nat} {p : Pr} (h : prErr p ≠ 0) : pOk nv p = false := by simp [pOk, h]

theorem pOk_not2 {nv : Nat} {p : Pr} (h : p.ix.all (inR 0 ((nv : Int) - 1)) = false) : pOk nv p = false := by rw [pOk, h, Bool.and_false]

theorem pOk_yes {nv : Nat} {p : Pr} (h : prErr p = 0) (h2 : p.ix.all (inR 0 ((nv : Int) - 1)) = true) : pOk nv p = true := by rw [pOk, h2, Bool.and_true, decide_eq_true_eq]; exact h

theorem ps_errs {nv : Nat} {ps : List Pr} {k : Nat} (h : ∀ j, j < k → pOk nv (nth dPr ps j) = true) : ∀ j, j < k → prErr (nth dPr ps j) = 0 := fun j hj => pOk_err (h j hj)

end

section


open Go.RowKit Go.ChangeShapes Go.WideShapes Go.ChangeAt

set_option linter.unusedSimpArgs false

set_option linter.unusedVariables false

attribute [local go_sem] plus_size plus_drew dn_set dn_alloc dn_plus plus_dn cell_plus frozen_plus set_plus cell_alloc frozen_alloc set_alloc

attribute [local go_sem] eqarr_40 nearr_40 larr_40

attribute [local go_sem] eqarr_137 nearr_137 larr_137

attribute [local go_sem] isnil_47

attribute [local go_sem] isnil_57

attribute [local go_sem] isnil_58

attribute [local go_sem] isnil_59

def allOk (nv : Nat) (ps : List Pr) : Bool := ps.all (pOk nv)

def allListM (nv : Nat) (ps : List Pr) : List V3 := if allOk nv ps = true then tris ps ps.length else []

set_option maxRecDepth 100000 in
set_option maxHeartbeats 4000000 in
theorem all_calls (va ua pa : Option Addr) (vn vc un uc pn pc : Nat) (hs : List PH) (ps : List Pr) (w : World) (hpl : Lay fP w pa pn hs) (hpp : PrimsAt w hs ps) (hvn : vn ≤ 10000) (hpn : pn ≤ 100) :
    Calls Tryz.prog 184 #[.agg #[.slice va vn vc, .slice ua un uc, .slice pa pn pc]] w fun e w' => RetT fV w (allListM vn ps) (.bool (allOk vn ps)) e w' := by
  have hpl1 := hpl.len
  have hpl2 := hpp.len
  have iwv : IntKind.i64.wrap ((vn : Int) - 1) = (vn : Int) - 1 := by
    simp [IntKind.wrap, IntKind.bits, IntKind.signed]
    omega
  go_enter Tryz.func184, Tryz.ntmps184
  go_wp2
  go_loopw [4, 5] (fun v i wr => ∃ (k : Nat) (ao' : Option Addr) (cap' : Nat), k ≤ pn ∧ v = .slice ao' (trisN ps k) cap' ∧ i = .int .i64 k ∧ (∀ j, j < k → pOk vn (nth dPr ps j) = true) ∧ (∃ y, wr = plus (w.alloc (.cells #[.slice va vn vc, .slice ua un uc, .slice pa pn pc] 61)) y) ∧ Own 40 3 fV (w.alloc (.cells #[.slice va vn vc, .slice ua un uc, .slice pa pn pc] 61)) wr ao' (trisN ps k) cap' (tris ps k)) (fun _ i _ => pn - (intOf i).toNat)
  case atStart => exact ⟨0, none, 0, Nat.zero_le _, rfl, rfl, fun j hj => by omega, (by with_reducible repeat (first | exact ex_refl _ | exact ex_moreM | apply ex_alloc | apply ex_plus | apply ex_drew | apply ex_drewN)), own_nil⟩
  case round =>
    obtain ⟨k, ao', cap', hk, rfl, rfl, hs1, ⟨x, rfl⟩, hown⟩ := hrel
    have hT := trisN_le (ps := ps) (k := k) (by omega) (ps_errs hs1)
    by_cases hkl : k < pn
    · obtain ⟨g, off, rfl, hg, hcell⟩ := hpl.some (by omega)
      have hsucc := trisN_succ (ps := ps) (k := k) (by omega)
      have hsucc2 := tris_succ (ps := ps) (k := k) (by omega)
      obtain ⟨d0, d1⟩ := cellP hpl.len hcell (k := k) hkl
      have hp := hpp.one k (by rw [hpl.len]; exact hkl)
      generalize hpe : nth dPr ps k = p at *
      generalize hhe : nth dPH hs k = hh at *
      obtain ⟨kind, ao1, n1, cap1⟩ := hh
      obtain ⟨kind2, ix⟩ := p
      obtain ⟨hk1, hk2, hk3, hk4, hk5, hk6⟩ := hp
      simp only at d0 d1 hk1 hk2 hk3 hk4 hk5 hk6
      subst hk1
      have ik : (k : Int) < (pn : Int) := by omega
      have hixl := hk6.len
      rcases prErr_or ⟨kind, ix⟩ with he | he | he | he
      · go_wp2_with (go_at_call 194; refine (rprim_calls _ _ _ _ ix _ hk2 (hk6.ex (by with_reducible repeat (first | exact ex_refl _ | exact ex_moreM | apply ex_alloc | apply ex_plus | apply ex_drew | apply ex_drewN | (apply ex_on; assumption)))) hk4).mono ?_; rintro e w1 ⟨ao2, m1, cap2, rfl, hw1, hl1⟩; rw [he]; have a0 : w1.cell? ⟨w.heap.size, 0, none⟩ = some (.slice va vn vc) := cell_ex hw1 (by simp [go_sem, ↓IntWalk.iteOmega]); have a2 : w1.cell? ⟨w.heap.size, 2, none⟩ = some (.slice (some ⟨g, off, none⟩) pn pc) := cell_ex hw1 (by simp [go_sem, ↓IntWalk.iteOmega]); have hz1 := cell_lt a0; have e1 := cell_ex ((by with_reducible repeat (first | exact ex_refl _ | exact ex_moreM | apply ex_alloc | apply ex_plus | apply ex_drew | apply ex_drewN | (apply ex_on; assumption))) : ∃ y, w1 = plus w y) d1; have hge := cell_lt e1; have hixw := hk6.ex (w' := w1) (by with_reducible repeat (first | exact ex_refl _ | exact ex_moreM | apply ex_alloc | apply ex_plus | apply ex_drew | apply ex_drewN | (apply ex_on; assumption))))
        have hno : allOk vn ps = false := by rw [allOk, all_not (d := dPr) (k := k) (by omega) (by rw [hpe]; exact pOk_not1 (by rw [he]; decide))]
        exact bodyPost_ret (v := .tuple #[.slice none 0 0, .bool false]) (by simp [results, Tryz.results184, go_sem]) rfl ⟨_, _, _, by rw [hno], (by with_reducible repeat (first | exact ex_refl _ | exact ex_moreM | apply ex_alloc | apply ex_plus | apply ex_drew | apply ex_drewN | (apply ex_on; assumption))), by rw [allListM, hno]; exact Lay.nil⟩
      · go_wp2_with (go_at_call 194; refine (rprim_calls _ _ _ _ ix _ hk2 (hk6.ex (by with_reducible repeat (first | exact ex_refl _ | exact ex_moreM | apply ex_alloc | apply ex_plus | apply ex_drew | apply ex_drewN | (apply ex_on; assumption)))) hk4).mono ?_; rintro e w1 ⟨ao2, m1, cap2, rfl, hw1, hl1⟩; rw [he]; have a0 : w1.cell? ⟨w.heap.size, 0, none⟩ = some (.slice va vn vc) := cell_ex hw1 (by simp [go_sem, ↓IntWalk.iteOmega]); have a2 : w1.cell? ⟨w.heap.size, 2, none⟩ = some (.slice (some ⟨g, off, none⟩) pn pc) := cell_ex hw1 (by simp [go_sem, ↓IntWalk.iteOmega]); have hz1 := cell_lt a0; have e1 := cell_ex ((by with_reducible repeat (first | exact ex_refl _ | exact ex_moreM | apply ex_alloc | apply ex_plus | apply ex_drew | apply ex_drewN | (apply ex_on; assumption))) : ∃ y, w1 = plus w y) d1; have hge := cell_lt e1; have hixw := hk6.ex (w' := w1) (by with_reducible repeat (first | exact ex_refl _ | exact ex_moreM | apply ex_alloc | apply ex_plus | apply ex_drew | apply ex_drewN | (apply ex_on; assumption))))
        have hno : allOk vn ps = false := by rw [allOk, all_not (d := dPr) (k := k) (by omega) (by rw [hpe]; exact pOk_not1 (by rw [he]; decide))]
        exact bodyPost_ret (v := .tuple #[.slice none 0 0, .bool false]) (by simp [results, Tryz.results184, go_sem]) rfl ⟨_, _, _, by rw [hno], (by with_reducible repeat (first | exact ex_refl _ | exact ex_moreM | apply ex_alloc | apply ex_plus | apply ex_drew | apply ex_drewN | (apply ex_on; assumption))), by rw [allListM, hno]; exact Lay.nil⟩
      · go_wp2_with (go_at_call 194; refine (rprim_calls _ _ _ _ ix _ hk2 (hk6.ex (by with_reducible repeat (first | exact ex_refl _ | exact ex_moreM | apply ex_alloc | apply ex_plus | apply ex_drew | apply ex_drewN | (apply ex_on; assumption)))) hk4).mono ?_; rintro e w1 ⟨ao2, m1, cap2, rfl, hw1, hl1⟩; rw [he]; have a0 : w1.cell? ⟨w.heap.size, 0, none⟩ = some (.slice va vn vc) := cell_ex hw1 (by simp [go_sem, ↓IntWalk.iteOmega]); have a2 : w1.cell? ⟨w.heap.size, 2, none⟩ = some (.slice (some ⟨g, off, none⟩) pn pc) := cell_ex hw1 (by simp [go_sem, ↓IntWalk.iteOmega]); have hz1 := cell_lt a0; have e1 := cell_ex ((by with_reducible repeat (first | exact ex_refl _ | exact ex_moreM | apply ex_alloc | apply ex_plus | apply ex_drew | apply ex_drewN | (apply ex_on; assumption))) : ∃ y, w1 = plus w y) d1; have hge := cell_lt e1; have hixw := hk6.ex (w' := w1) (by with_reducible repeat (first | exact ex_refl _ | exact ex_moreM | apply ex_alloc | apply ex_plus | apply ex_drew | apply ex_drewN | (apply ex_on; assumption))))
        have hno : allOk vn ps = false := by rw [allOk, all_not (d := dPr) (k := k) (by omega) (by rw [hpe]; exact pOk_not1 (by rw [he]; decide))]
        exact bodyPost_ret (v := .tuple #[.slice none 0 0, .bool false]) (by simp [results, Tryz.results184, go_sem]) rfl ⟨_, _, _, by rw [hno], (by with_reducible repeat (first | exact ex_refl _ | exact ex_moreM | apply ex_alloc | apply ex_plus | apply ex_drew | apply ex_drewN | (apply ex_on; assumption))), by rw [allListM, hno]; exact Lay.nil⟩
      have h200 := ix_200 he
      have h201 := prTris_200 he
      simp only at h200
      go_wp2_with (go_at_call 194; refine (rprim_calls _ _ _ _ ix _ hk2 (hk6.ex (by with_reducible repeat (first | exact ex_refl _ | exact ex_moreM | apply ex_alloc | apply ex_plus | apply ex_drew | apply ex_drewN | (apply ex_on; assumption)))) hk4).mono ?_; rintro e w1 ⟨ao2, m1, cap2, rfl, hw1, hl1⟩; rw [he]; have a0 : w1.cell? ⟨w.heap.size, 0, none⟩ = some (.slice va vn vc) := cell_ex hw1 (by simp [go_sem, ↓IntWalk.iteOmega]); have a2 : w1.cell? ⟨w.heap.size, 2, none⟩ = some (.slice (some ⟨g, off, none⟩) pn pc) := cell_ex hw1 (by simp [go_sem, ↓IntWalk.iteOmega]); have hz1 := cell_lt a0; have e1 := cell_ex ((by with_reducible repeat (first | exact ex_refl _ | exact ex_moreM | apply ex_alloc | apply ex_plus | apply ex_drew | apply ex_drewN | (apply ex_on; assumption))) : ∃ y, w1 = plus w y) d1; have hge := cell_lt e1; have hixw := hk6.ex (w' := w1) (by with_reducible repeat (first | exact ex_refl _ | exact ex_moreM | apply ex_alloc | apply ex_plus | apply ex_drew | apply ex_drewN | (apply ex_on; assumption))))
      rw [prList_good he] at hl1
      have hm1 := hl1.len
      go_loopw [8] (fun i wr => ∃ q : Nat, q ≤ n1 ∧ i = .int .i64 q ∧ (∀ j, j < q → inR 0 ((vn : Int) - 1) (nth 0 ix j) = true) ∧ ∃ x, wr = plus w1 x) (fun i _ => n1 - (intOf i).toNat)
      case atStart => exact ⟨0, Nat.zero_le _, rfl, fun j hj => by omega, (by with_reducible repeat (first | exact ex_refl _ | exact ex_moreM | apply ex_alloc | apply ex_plus | apply ex_drew | apply ex_drewN))⟩
      case round =>
        obtain ⟨q, hq, rfl, hin, x2, rfl⟩ := hrel
        by_cases hql : q < n1
        · have iq : (q : Int) < (n1 : Int) := by omega
          obtain ⟨gi, oi, rfl, hgi, hci⟩ := hixw.some (by omega)
          have c0 := cellI hixw.len hci hql
          cases hi : inR 0 ((vn : Int) - 1) (nth 0 ix q)
          · go_wp2
            refine region_plus (by kernel_rfl) (by kernel_rfl) ?_
            (repeat (go_big_quiet_step ((go_at_call 183; exact plus_of (in_calls _ _ _ _)))))
            refine wpQuiet_nil ?_
            rintro _ ⟨x2, rfl⟩
            go_wp2
            have hno : allOk vn ps = false := by rw [allOk, all_not (d := dPr) (k := k) (by omega) (by rw [hpe]; exact pOk_not2 (all_not (d := 0) (k := q) (by rw [hk6.len]; exact hql) hi))]
            exact bodyPost_ret (v := .tuple #[.slice none 0 0, .bool false]) (by simp [results, Tryz.results184, go_sem]) rfl ⟨_, _, _, by rw [hno], (by with_reducible repeat (first | exact ex_refl _ | exact ex_moreM | apply ex_alloc | apply ex_plus | apply ex_drew | apply ex_drewN | (apply ex_on; assumption))), by rw [allListM, hno]; exact Lay.nil⟩
          · go_wp2
            refine region_plus (by kernel_rfl) (by kernel_rfl) ?_
            (repeat (go_big_quiet_step ((go_at_call 183; exact plus_of (in_calls _ _ _ _)))))
            refine wpQuiet_nil ?_
            rintro _ ⟨x2, rfl⟩
            go_wp2
            go_roundw
            case rel => exact ⟨q + 1, by omega, by go_num, upto_succM hin hi, (by with_reducible repeat (first | exact ex_refl _ | exact ex_moreM | apply ex_alloc | apply ex_plus | apply ex_drew | apply ex_drewN))⟩
            case measure => simp [intOf]; omega
        · have iq : ¬ (q : Int) < (n1 : Int) := by omega
          have hall : ix.all (inR 0 ((vn : Int) - 1)) = true := all_yes (d := 0) (fun j hj => hin j (by omega))
          go_wp2_with (at_builtin; refine wpList_append_lay (T := (w.alloc (.cells #[.slice va vn vc, .slice ua un uc, .slice (some ⟨g, off, none⟩) pn pc] 61))) rfl _ _ rfl kinT fV_c fV_1 rfl (by with_reducible repeat (first | exact ex_refl _ | exact ex_moreM | apply ex_alloc | apply ex_plus | apply ex_drew | apply ex_drewN | (apply ex_on; assumption))) (hown.ex (by with_reducible repeat (first | exact ex_refl _ | exact ex_moreM | apply ex_alloc | apply ex_plus | apply ex_drew | apply ex_drewN | (apply ex_on; assumption)))) rfl (hl1.ex (by with_reducible repeat (first | exact ex_refl _ | exact ex_moreM | apply ex_alloc | apply ex_plus | apply ex_drew | apply ex_drewN | (apply ex_on; assumption)))) (by omega) (by decide) ?_; intro ao' cap' y' hown')
          go_roundw
          case rel => exact ⟨k + 1, ao', cap', by omega, by rw [hsucc, hm1], by go_num, upto_succM hs1 (by rw [hpe]; exact pOk_yes he hall), (by with_reducible repeat (first | exact ex_refl _ | exact ex_moreM | apply ex_alloc | apply ex_plus | apply ex_drew | apply ex_drewN | (apply ex_on; assumption))), by rw [hsucc2, hsucc, hm1]; exact hown'⟩
          case measure => simp [intOf]; omega
    · have ik : ¬ (k : Int) < (pn : Int) := by omega
      obtain rfl : k = pn := by omega
      go_wp2
      have hok : allOk vn ps = true := all_yes (d := dPr) (fun j hj => hs1 j (by omega))
      exact bodyPost_ret (v := .tuple #[.slice ao' (trisN ps k) cap', .bool true]) (by simp [results, Tryz.results184, go_sem]) rfl ⟨_, _, _, by rw [hok], (by with_reducible repeat (first | exact ex_refl _ | exact ex_moreM | apply ex_alloc | apply ex_plus | apply ex_drew | apply ex_drewN | (apply ex_on; assumption))), by rw [allListM, if_pos hok, ← hpl2, hpl1]; exact hown.lay⟩

end

end Go.Proofs.YtcekcihijdipoaaGreat
