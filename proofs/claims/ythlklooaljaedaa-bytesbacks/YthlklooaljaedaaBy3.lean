/- What Num and Read give. -/
import Derived.Test.YthlklooaljaedaaBy2
namespace Go.Proofs.Ythlklooaljaedaa
open Go.RowKit Go.ChangeShapes Go.WideShapes Go.ChangeAt
set_option linter.unusedSimpArgs false
set_option linter.unusedVariables false
attribute [local go_sem] plus_size plus_drew dn_set dn_alloc dn_plus plus_dn cell_plus frozen_plus set_plus cell_alloc frozen_alloc set_alloc

theorem num_calls (n : Int) (w : World) :
    Calls Try.prog 10 #[.int .i64 n] w fun e w' => ∃ ao' cap', e = .returned (.tuple #[.slice ao' (numL n).1.length cap', .int .i64 (numL n).2]) ∧ (∃ y, w' = plus w y) ∧ Own 5 1 fU w w' ao' (numL n).1.length cap' (numL n).1 := by
  unfold numL
  cases hc : canB n
  · rw [if_neg (by decide)]
    go_enter Try.func10, Try.ntmps10
    go_wp2_with (first | (go_at_call 20; refine (maybe_calls _ _).mono ?_; rintro e w' ⟨rfl, ew⟩; obtain rfl := ew.symm; rw [hc]))
    go_ret2
    exact ⟨none, 0, rfl, (by with_reducible repeat (first | exact ex_refl _ | exact ex_more8 | apply ex_alloc | apply ex_plus | apply ex_drew | apply ex_drewN)), own_nil⟩
  · rw [if_pos rfl]
    go_enter Try.func10, Try.ntmps10
    go_wp2_with (first | (go_at_call 20; refine (maybe_calls _ _).mono ?_; rintro e w' ⟨rfl, ew⟩; obtain rfl := ew.symm; rw [hc]) | (go_at_call 19; refine (with_calls _ _ _ _ _ [] _ (ex_refl _) own_nil hc (by omega)).mono ?_; rintro e w1 ⟨ao2, cap2, rfl, hw1, hown2⟩; rw [List.nil_append] at hown2))
    go_ret2
    exact ⟨ao2, cap2, rfl, hw1, by rw [Nat.zero_add] at hown2; exact hown2⟩

theorem rnum_calls (n : Int) (w : World) :
    Calls Try.prog 13 #[.int .i64 n] w fun e w' => ∃ ao' cap', e = .returned (.tuple #[.slice ao' (numL n).1.length cap', .int .i64 (numL n).2]) ∧ (∃ y, w' = plus w y) ∧ Own 5 1 fU w w' ao' (numL n).1.length cap' (numL n).1 := by
  unfold numL
  cases hc : canB n
  · rw [if_neg (by decide)]
    go_enter Try.func13, Try.ntmps13
    go_wp2_with (first | (go_at_call 22; refine (rin8_calls _ _).mono ?_; rintro e w' ⟨rfl, ew⟩; obtain rfl := ew.symm; rw [hc]))
    go_ret2
    exact ⟨none, 0, rfl, (by with_reducible repeat (first | exact ex_refl _ | exact ex_more8 | apply ex_alloc | apply ex_plus | apply ex_drew | apply ex_drewN)), own_nil⟩
  · rw [if_pos rfl]
    go_enter Try.func13, Try.ntmps13
    go_wp2_with (first | (go_at_call 22; refine (rin8_calls _ _).mono ?_; rintro e w' ⟨rfl, ew⟩; obtain rfl := ew.symm; rw [hc]) | (go_at_call 23; refine (rbytes_calls _ _ hc).mono ?_; rintro e w1 ⟨ao2, cap2, rfl, hw1, hown2⟩))
    go_ret2
    exact ⟨ao2, cap2, rfl, hw1, hown2⟩


theorem minB8 (a b : Int) : (if b < a then b else a) = min a b := by
  split <;> omega
attribute [local go_sem] minB8

set_option maxHeartbeats 2000000 in
theorem read_calls (ao : Option Addr) (n cap : Nat) (l : List Int) (w : World) (hl : Lay fU w ao n l) (hb : Byt l) (hn : n ≤ 9223372036854775807) :
    Calls Try.prog 14 #[.slice ao n cap] w fun e w' => e = .returned (.tuple #[.int .i64 (readL l).1, .int .i64 (readL l).2.1, .int .i64 (readL l).2.2]) ∧ w' = w := by
  have hlen := hl.len
  obtain ⟨q, hq⟩ : ∃ q : Nat, min n 6 = q := ⟨_, rfl⟩
  have em : min (n : Int) 6 = (q : Int) := by omega
  go_enter Try.func14, Try.ntmps14
  go_wp2
  go_loopw [5, 6, 10] (fun r a c wr => ∃ (i x : Nat), i ≤ q ∧ r = .int .i64 x ∧ c = .int .i64 i ∧ x < 128 ^ i ∧ rd (6 - i) i x (l.drop i) = readL l ∧ wr = w) (fun _ _ c _ => 6 - (intOf c).toNat)
  case atStart => exact ⟨0, 0, Nat.zero_le _, rfl, rfl, by decide, by simp [readL], rfl⟩
  case round =>
    obtain ⟨i, x, hi, rfl, rfl, hx, he, rfl⟩ := hrel
    by_cases hiq : i < q
    · obtain ⟨g, off, rfl, hg, hcell⟩ := hl.some (by omega)
      have c0 := cellU hlen hcell (k := i) (by omega)
      have hbi := hb.nth (k := i) (by omega)
      have hdr : l.drop i = nth 0 l i :: l.drop (i + 1) := drop_nth (by omega)
      rw [hdr, show 6 - i = (5 - i) + 1 by omega, rd] at he
      generalize nth 0 l i = b at *
      obtain ⟨m, s, z, hz, hzl, hz4, ea, ew, es, eo⟩ := read_step hx (by omega) hbi.1 hbi.2
      rw [← hz] at he
      clear hz
      have et := u8_top hbi.1 hbi.2
      clear hdr hcell hx hl
      have iq : (i : Int) < (q : Int) := by omega
      have ik : (i : Int) < (n : Int) := by omega
      by_cases hlt : b < 128
      · rw [if_pos hlt] at he
        have e0 : b / 128 * 128 = 0 := by omega
        rw [e0] at et
        by_cases hz0 : 0 < i ∧ b = 0
        · rw [if_pos (.inl hz0)] at he
          have pi : (0 : Int) < (i : Int) := by omega
          have pb : (b == 0) = true := by simp [hz0.2]
          replace he := Hush.mk he
          clear hz0
          go_wp2
          go_ret3
          exact ⟨by rw [← he.it]; rfl, rfl⟩
        · by_cases hzz : 2199023255552 < z
          · rw [if_pos (.inr hzz)] at he
            have pz : (2199023255552 : Int) < (z : Int) := by omega
            replace he := Hush.mk he
            by_cases hi0 : 0 < i
            · have pi : (0 : Int) < (i : Int) := by omega
              have pb : (b == 0) = false := by rw [beq_eq_false_iff_ne]; omega
              go_wp2
              go_ret3
              exact ⟨by rw [← he.it]; rfl, rfl⟩
            · have pi : ¬ (0 : Int) < (i : Int) := by omega
              go_wp2
              go_ret3
              exact ⟨by rw [← he.it]; rfl, rfl⟩
          · have hno : ¬ ((0 < i ∧ b = 0) ∨ 2199023255552 < z) := by omega
            rw [if_neg hno] at he
            have pz : ¬ (2199023255552 : Int) < (z : Int) := by omega
            replace he := Hush.mk he
            by_cases hi0 : 0 < i
            · have pi : (0 : Int) < (i : Int) := by omega
              have pb : (b == 0) = false := by rw [beq_eq_false_iff_ne]; omega
              clear hno hz0
              go_wp2_with (go_at_call 24; refine (ofRank_calls _ _ (by omega)).mono ?_; rintro e w' ⟨rfl, ew⟩; obtain rfl := ew.symm)
              go_ret3
              exact ⟨by rw [← he.it]; rfl, rfl⟩
            · have pi : ¬ (0 : Int) < (i : Int) := by omega
              clear hno hz0
              go_wp2_with (go_at_call 24; refine (ofRank_calls _ _ (by omega)).mono ?_; rintro e w' ⟨rfl, ew⟩; obtain rfl := ew.symm)
              go_ret3
              exact ⟨by rw [← he.it]; rfl, rfl⟩
      · rw [if_neg hlt] at he
        have e0 : b / 128 * 128 = 128 := by omega
        rw [e0] at et
        replace he := Hush.mk he
        go_wp2
        go_roundw
        case rel => exact ⟨i + 1, z, by omega, rfl, by go_num, hzl, by rw [show 6 - (i + 1) = 5 - i by omega]; exact he.it, trivial⟩
        case measure => simp [intOf]; omega
    · have iq : ¬ (i : Int) < (q : Int) := by omega
      have he2 : readL l = (0, 0, 8) := by
        by_cases h6 : i = 6
        · subst h6; exact he.symm
        · rw [← he, show 6 - i = (5 - i) + 1 by omega, List.drop_of_length_le (by omega)]; rfl
      replace he2 := Hush.mk he2
      go_wp2
      go_ret3
      exact ⟨by rw [he2.it]; rfl, rfl⟩

end Go.Proofs.Ythlklooaljaedaa
