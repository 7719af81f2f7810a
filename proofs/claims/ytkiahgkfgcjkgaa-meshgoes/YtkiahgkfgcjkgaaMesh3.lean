/- What mesh.lengthMayBe, triangles and Prim give. -/
import Derived.Test.YtkiahgkfgcjkgaaMesh2
namespace Go.Proofs.Ytkiahgkfgcjkgaa
open Go.RowKit Go.ChangeShapes Go.WideShapes Go.ChangeAt
set_option linter.unusedSimpArgs false
set_option linter.unusedVariables false
attribute [local go_sem] plus_size plus_drew dn_set dn_alloc dn_plus plus_dn cell_plus frozen_plus set_plus cell_alloc frozen_alloc set_alloc

theorem lengthMay_calls (kind : Int) (n : Nat) (w : World) (h0 : 0 ≤ kind) (h2 : kind ≤ 2) (hn : n ≤ 10000) :
    Calls Try.prog 24 #[.int .u8 kind, .int .i64 n] w fun e w' => e = .returned (.bool (lenOk kind n)) ∧ Below w.heap.size w w' := by
  rcases (show kind = 0 ∨ kind = 1 ∨ kind = 2 by omega) with rfl | rfl | rfl
  · by_cases h3 : n % 3 = 0
    · rw [show lenOk 0 n = true by simp [lenOk, h3]]
      have i3 : (n : Int) % 3 = 0 := by omega
      go_enter Try.func24, Try.ntmps24
      go_wp2
      go_ret
      exact ⟨rfl, by with_reducible repeat (first | exact Below.refl _ _ | apply ba | apply bp | apply bd | apply bn)⟩
    · rw [show lenOk 0 n = false by simp [lenOk, h3]]
      have i3 : ¬ (n : Int) % 3 = 0 := by omega
      have d3 : ((n : Int) % 3 == 0) = false := by simp [i3]
      go_enter Try.func24, Try.ntmps24
      go_wp2
      go_ret
      exact ⟨rfl, by with_reducible repeat (first | exact Below.refl _ _ | apply ba | apply bp | apply bd | apply bn)⟩
  · by_cases h3 : n = 0
    · subst h3
      rw [show lenOk 1 0 = true by simp [lenOk]]
      go_enter Try.func24, Try.ntmps24
      go_wp2
      go_ret
      exact ⟨rfl, by with_reducible repeat (first | exact Below.refl _ _ | apply ba | apply bp | apply bd | apply bn)⟩
    · by_cases h4 : 3 ≤ n
      · rw [show lenOk 1 n = true by simp [lenOk, h4]]
        have i3 : ¬ (n : Int) = 0 := by omega
        have d3 : ((n : Int) == 0) = false := by simp [h3]
        have i4 : (3 : Int) ≤ (n : Int) := by omega
        go_enter Try.func24, Try.ntmps24
        go_wp2
        go_ret
        exact ⟨rfl, by with_reducible repeat (first | exact Below.refl _ _ | apply ba | apply bp | apply bd | apply bn)⟩
      · rw [show lenOk 1 n = false by simp [lenOk, h3, h4]]
        have i3 : ¬ (n : Int) = 0 := by omega
        have d3 : ((n : Int) == 0) = false := by simp [h3]
        have i4 : ¬ (3 : Int) ≤ (n : Int) := by omega
        go_enter Try.func24, Try.ntmps24
        go_wp2
        go_ret
        exact ⟨rfl, by with_reducible repeat (first | exact Below.refl _ _ | apply ba | apply bp | apply bd | apply bn)⟩
  · by_cases h3 : n = 0
    · subst h3
      rw [show lenOk 2 0 = true by simp [lenOk]]
      go_enter Try.func24, Try.ntmps24
      go_wp2
      go_ret
      exact ⟨rfl, by with_reducible repeat (first | exact Below.refl _ _ | apply ba | apply bp | apply bd | apply bn)⟩
    · by_cases h4 : 3 ≤ n
      · rw [show lenOk 2 n = true by simp [lenOk, h4]]
        have i3 : ¬ (n : Int) = 0 := by omega
        have d3 : ((n : Int) == 0) = false := by simp [h3]
        have i4 : (3 : Int) ≤ (n : Int) := by omega
        go_enter Try.func24, Try.ntmps24
        go_wp2
        go_ret
        exact ⟨rfl, by with_reducible repeat (first | exact Below.refl _ _ | apply ba | apply bp | apply bd | apply bn)⟩
      · rw [show lenOk 2 n = false by simp [lenOk, h3, h4]]
        have i3 : ¬ (n : Int) = 0 := by omega
        have d3 : ((n : Int) == 0) = false := by simp [h3]
        have i4 : ¬ (3 : Int) ≤ (n : Int) := by omega
        go_enter Try.func24, Try.ntmps24
        go_wp2
        go_ret
        exact ⟨rfl, by with_reducible repeat (first | exact Below.refl _ _ | apply ba | apply bp | apply bd | apply bn)⟩

theorem triangles_calls (kind : Int) (ao : Option Addr) (n cap : Nat) (ix : List Int) (w : World) (hl : Lay fI w ao n ix) (hn : n ≤ 10000) :
    Calls Try.prog 25 #[.agg #[.int .u8 kind, .slice ao n cap]] w fun e w' => RetL fV w (prTris ⟨kind, ix⟩) e w' := by
  have hlen := hl.len
  by_cases h1 : kind = 1
  · subst h1
    go_enter Try.func25, Try.ntmps25
    go_wp2_with (first | (go_at_call 39; refine (stripOf_calls _ _ _ _ _ (hl.ex (by with_reducible repeat (first | exact ex_refl _ | exact ex_more | apply ex_alloc | apply ex_plus | apply ex_drew | apply ex_drewN))) hn).mono ?_; rintro e w' ⟨ao1, cap1, rfl, ⟨yao1, rfl⟩, hl1⟩) | (go_at_call 40; refine (fanOf_calls _ _ _ _ _ (hl.ex (by with_reducible repeat (first | exact ex_refl _ | exact ex_more | apply ex_alloc | apply ex_plus | apply ex_drew | apply ex_drewN))) hn).mono ?_; rintro e w' ⟨ao1, cap1, rfl, ⟨yao1, rfl⟩, hl1⟩) | (go_at_call 41; refine (threesOf_calls _ _ _ _ _ (hl.ex (by with_reducible repeat (first | exact ex_refl _ | exact ex_more | apply ex_alloc | apply ex_plus | apply ex_drew | apply ex_drewN))) hn).mono ?_; rintro e w' ⟨ao1, cap1, rfl, ⟨yao1, rfl⟩, hl1⟩))
    go_ret
    exact ⟨_, _, _, rfl, (by with_reducible repeat (first | exact ex_refl _ | exact ex_more | apply ex_alloc | apply ex_plus | apply ex_drew | apply ex_drewN)), by rw [show prTris ⟨1, ix⟩ = firsts (stripT ix) (n - 2) by rw [← hlen]; rfl]; exact hl1.lay⟩
  · by_cases h2 : kind = 2
    · subst h2
      go_enter Try.func25, Try.ntmps25
      go_wp2_with (first | (go_at_call 39; refine (stripOf_calls _ _ _ _ _ (hl.ex (by with_reducible repeat (first | exact ex_refl _ | exact ex_more | apply ex_alloc | apply ex_plus | apply ex_drew | apply ex_drewN))) hn).mono ?_; rintro e w' ⟨ao1, cap1, rfl, ⟨yao1, rfl⟩, hl1⟩) | (go_at_call 40; refine (fanOf_calls _ _ _ _ _ (hl.ex (by with_reducible repeat (first | exact ex_refl _ | exact ex_more | apply ex_alloc | apply ex_plus | apply ex_drew | apply ex_drewN))) hn).mono ?_; rintro e w' ⟨ao1, cap1, rfl, ⟨yao1, rfl⟩, hl1⟩) | (go_at_call 41; refine (threesOf_calls _ _ _ _ _ (hl.ex (by with_reducible repeat (first | exact ex_refl _ | exact ex_more | apply ex_alloc | apply ex_plus | apply ex_drew | apply ex_drewN))) hn).mono ?_; rintro e w' ⟨ao1, cap1, rfl, ⟨yao1, rfl⟩, hl1⟩))
      go_ret
      exact ⟨_, _, _, rfl, (by with_reducible repeat (first | exact ex_refl _ | exact ex_more | apply ex_alloc | apply ex_plus | apply ex_drew | apply ex_drewN)), by rw [show prTris ⟨2, ix⟩ = firsts (fanT ix) (n - 2) by rw [← hlen]; rfl]; exact hl1.lay⟩
    go_enter Try.func25, Try.ntmps25
    go_wp2_with (first | (go_at_call 39; refine (stripOf_calls _ _ _ _ _ (hl.ex (by with_reducible repeat (first | exact ex_refl _ | exact ex_more | apply ex_alloc | apply ex_plus | apply ex_drew | apply ex_drewN))) hn).mono ?_; rintro e w' ⟨ao1, cap1, rfl, ⟨yao1, rfl⟩, hl1⟩) | (go_at_call 40; refine (fanOf_calls _ _ _ _ _ (hl.ex (by with_reducible repeat (first | exact ex_refl _ | exact ex_more | apply ex_alloc | apply ex_plus | apply ex_drew | apply ex_drewN))) hn).mono ?_; rintro e w' ⟨ao1, cap1, rfl, ⟨yao1, rfl⟩, hl1⟩) | (go_at_call 41; refine (threesOf_calls _ _ _ _ _ (hl.ex (by with_reducible repeat (first | exact ex_refl _ | exact ex_more | apply ex_alloc | apply ex_plus | apply ex_drew | apply ex_drewN))) hn).mono ?_; rintro e w' ⟨ao1, cap1, rfl, ⟨yao1, rfl⟩, hl1⟩))
    go_ret
    exact ⟨_, _, _, rfl, (by with_reducible repeat (first | exact ex_refl _ | exact ex_more | apply ex_alloc | apply ex_plus | apply ex_drew | apply ex_drewN)), by rw [show prTris ⟨kind, ix⟩ = firsts (threeT ix) (n / 3) by rw [← hlen]; exact (if_neg h1).trans (if_neg h2)]; exact hl1.lay⟩

theorem mprim_calls (kind : Int) (ao : Option Addr) (n cap : Nat) (ix : List Int) (w : World) (h0 : 0 ≤ kind) (hl : Lay fI w ao n ix) (hn : n ≤ 9223372036854775807) :
    Calls Try.prog 9 #[.agg #[.int .u8 kind, .slice ao n cap]] w fun e w' => RetT fV w (prList ⟨kind, ix⟩) (.int .i64 (prErr ⟨kind, ix⟩)) e w' := by
  have hlen := hl.len
  by_cases h1 : 2 < kind
  · have he := prErr_kind (ix := ix) h1
    rw [he]
    go_enter Try.func9, Try.ntmps9
    go_wp2_with (first | (go_at_call 24; refine (plus_post (lengthMay_calls _ _ _ h0 (by omega) (by omega))).mono ?_; rintro e w' ⟨rfl, nx, rfl⟩) | (go_at_call 25; refine (triangles_calls _ _ _ _ _ _ (hl.ex (by with_reducible repeat (first | exact ex_refl _ | exact ex_more | apply ex_alloc | apply ex_plus | apply ex_drew | apply ex_drewN))) (by omega)).mono ?_; rintro e w' ⟨ao1, m1, cap1, rfl, ⟨yao1, rfl⟩, hl1⟩))
    exact bodyPost_ret (v := .tuple #[.slice none 0 0, .int .i64 2]) (by simp [results, Try.results9, go_sem]) rfl ⟨_, _, _, rfl, (by with_reducible repeat (first | exact ex_refl _ | exact ex_more | apply ex_alloc | apply ex_plus | apply ex_drew | apply ex_drewN)), by rw [prList_bad (by rw [he]; decide)]; exact Lay.nil⟩
  by_cases h2 : 200 < n
  · have he := prErr_many (ix := ix) h1 (by omega)
    rw [he]
    have i2 : (200 : Int) < (n : Int) := by omega
    go_enter Try.func9, Try.ntmps9
    go_wp2_with (first | (go_at_call 24; refine (plus_post (lengthMay_calls _ _ _ h0 (by omega) (by omega))).mono ?_; rintro e w' ⟨rfl, nx, rfl⟩) | (go_at_call 25; refine (triangles_calls _ _ _ _ _ _ (hl.ex (by with_reducible repeat (first | exact ex_refl _ | exact ex_more | apply ex_alloc | apply ex_plus | apply ex_drew | apply ex_drewN))) (by omega)).mono ?_; rintro e w' ⟨ao1, m1, cap1, rfl, ⟨yao1, rfl⟩, hl1⟩))
    exact bodyPost_ret (v := .tuple #[.slice none 0 0, .int .i64 4]) (by simp [results, Try.results9, go_sem]) rfl ⟨_, _, _, rfl, (by with_reducible repeat (first | exact ex_refl _ | exact ex_more | apply ex_alloc | apply ex_plus | apply ex_drew | apply ex_drewN)), by rw [prList_bad (by rw [he]; decide)]; exact Lay.nil⟩
  have i2 : ¬ (200 : Int) < (n : Int) := by omega
  cases h3 : lenOk kind n
  · have he := prErr_bad (ix := ix) h1 (by omega) (by rw [hlen]; exact h3)
    rw [he]
    go_enter Try.func9, Try.ntmps9
    go_wp2_with (first | (go_at_call 24; refine (plus_post (lengthMay_calls _ _ _ h0 (by omega) (by omega))).mono ?_; rintro e w' ⟨rfl, nx, rfl⟩) | (go_at_call 25; refine (triangles_calls _ _ _ _ _ _ (hl.ex (by with_reducible repeat (first | exact ex_refl _ | exact ex_more | apply ex_alloc | apply ex_plus | apply ex_drew | apply ex_drewN))) (by omega)).mono ?_; rintro e w' ⟨ao1, m1, cap1, rfl, ⟨yao1, rfl⟩, hl1⟩))
    exact bodyPost_ret (v := .tuple #[.slice none 0 0, .int .i64 40]) (by simp [results, Try.results9, go_sem]) rfl ⟨_, _, _, rfl, (by with_reducible repeat (first | exact ex_refl _ | exact ex_more | apply ex_alloc | apply ex_plus | apply ex_drew | apply ex_drewN)), by rw [prList_bad (by rw [he]; decide)]; exact Lay.nil⟩
  · have he := prErr_good (ix := ix) h1 (by omega) (by rw [hlen]; exact h3)
    rw [he]
    go_enter Try.func9, Try.ntmps9
    go_wp2_with (first | (go_at_call 24; refine (plus_post (lengthMay_calls _ _ _ h0 (by omega) (by omega))).mono ?_; rintro e w' ⟨rfl, nx, rfl⟩) | (go_at_call 25; refine (triangles_calls _ _ _ _ _ _ (hl.ex (by with_reducible repeat (first | exact ex_refl _ | exact ex_more | apply ex_alloc | apply ex_plus | apply ex_drew | apply ex_drewN))) (by omega)).mono ?_; rintro e w' ⟨ao1, m1, cap1, rfl, ⟨yao1, rfl⟩, hl1⟩))
    exact bodyPost_ret (v := .tuple #[.slice ao1 m1 cap1, .int .i64 0]) (by simp [results, Try.results9, go_sem]) rfl ⟨_, _, _, rfl, (by with_reducible repeat (first | exact ex_refl _ | exact ex_more | apply ex_alloc | apply ex_plus | apply ex_drew | apply ex_drewN)), by rw [prList_good he]; exact hl1⟩

end Go.Proofs.Ytkiahgkfgcjkgaa
