/- What dioramaref08.Read gives. -/
import Derived.Test.YthlklooaljaedaaBy3
namespace Go.Proofs.Ythlklooaljaedaa
open Go.RowKit Go.ChangeShapes Go.WideShapes Go.ChangeAt
set_option linter.unusedSimpArgs false
set_option linter.unusedVariables false
attribute [local go_sem] plus_size plus_drew dn_set dn_alloc dn_plus plus_dn cell_plus frozen_plus set_plus cell_alloc frozen_alloc set_alloc

attribute [local go_sem] minB8

set_option maxHeartbeats 2000000 in
theorem rread_calls (ao : Option Addr) (n cap : Nat) (l : List Int) (w : World) (hl : Lay fU w ao n l) (hb : Byt l) (hn : n ≤ 9223372036854775807) :
    Calls Try.prog 15 #[.slice ao n cap] w fun e w' => e = .returned (.tuple #[.int .i64 (readL l).1, .int .i64 (readL l).2.1, .int .i64 (readL l).2.2]) ∧ w' = w := by
  have hlen := hl.len
  go_enter Try.func15, Try.ntmps15
  go_wp2
  go_loopw [5, 6, 7, 8] (fun r u c nn wr => ∃ (i x uu : Nat), i ≤ min n 6 ∧ r = .int .i64 x ∧ u = .int .i64 uu ∧ c = .int .i64 i ∧ x < 128 ^ i ∧ uu = 128 ^ i ∧ rd (6 - i) i x (l.drop i) = readL l ∧ wr = w) (fun _ _ c _ _ => 6 - (intOf c).toNat)
  case atStart => exact ⟨0, 0, 1, Nat.zero_le _, rfl, rfl, rfl, by decide, rfl, by simp [readL], rfl⟩
  case round =>
    obtain ⟨i, x, uu, hi, rfl, rfl, rfl, hx, hu, he, rfl⟩ := hrel
    replace hi : i ≤ n ∧ i ≤ 6 := by omega
    by_cases hin : i < n
    · have ik : (i : Int) < (n : Int) := by omega
      by_cases hi6 : i < 6
      · have i6 : (i : Int) < 6 := by omega
        obtain ⟨g, off, rfl, hg, hcell⟩ := hl.some (by omega)
        have c0 := cellU hlen hcell (k := i) (by omega)
        have hbi := hb.nth (k := i) (by omega)
        have hdr : l.drop i = nth 0 l i :: l.drop (i + 1) := drop_nth (by omega)
        rw [hdr, show 6 - i = (5 - i) + 1 by omega, rd] at he
        generalize nth 0 l i = b at *
        obtain ⟨s, z, hz, hzl, hz4, e3, e4, e5⟩ := read_step2 hx (by omega) hbi.1 hbi.2 hu
        rw [← hz] at he
        have hu2 : uu * 128 = 128 ^ (i + 1) := by rw [hu, Nat.pow_succ]
        clear hz hdr hcell hx hl hu
        by_cases hlt : b < 128
        · rw [if_pos hlt] at he
          by_cases hpar : z % 2 = 1
          · have eu : un z = -1 - (z : Int) / 2 := by rw [un, if_pos hpar]; omega
            have pp : (((z : Int) % 2) == 1) = true := by rw [beq_iff_eq]; omega
            by_cases hz0 : 0 < i ∧ b = 0
            · rw [if_pos (.inl hz0)] at he
              have pi : (0 : Int) < (i : Int) := by omega
              have pb : (b == 0) = true := by simp [hz0.2]
              clear hz0 eu
              replace he := Hush.mk he
              go_wp2
              go_ret3
              exact ⟨by rw [← he.it]; rfl, rfl⟩
            by_cases hzz : 2199023255552 < z
            · rw [if_pos (.inr hzz)] at he
              have hc : canB (-1 - (z : Int) / 2) = false := by rw [← eu]; exact Bool.eq_false_iff.2 fun h => absurd (canB_un.1 h) (by omega)
              by_cases hi0 : 0 < i
              · have pi : (0 : Int) < (i : Int) := by omega
                have pb : (b == 0) = false := by rw [beq_eq_false_iff_ne]; omega
                clear hz0 hzz eu
                replace he := Hush.mk he
                go_wp2_with (go_at_call 22; refine (rin8_calls _ _).mono ?_; rintro e w' ⟨rfl, ew⟩; obtain rfl := ew.symm; rw [hc])
                go_ret3
                exact ⟨by rw [← he.it]; rfl, rfl⟩
              · have pi : ¬ (0 : Int) < (i : Int) := by omega
                clear hz0 hzz eu
                replace he := Hush.mk he
                go_wp2_with (go_at_call 22; refine (rin8_calls _ _).mono ?_; rintro e w' ⟨rfl, ew⟩; obtain rfl := ew.symm; rw [hc])
                go_ret3
                exact ⟨by rw [← he.it]; rfl, rfl⟩
            · have hno : ¬ ((0 < i ∧ b = 0) ∨ 2199023255552 < z) := by omega
              rw [if_neg hno, eu] at he
              have hc : canB (-1 - (z : Int) / 2) = true := by rw [← eu]; exact canB_un.2 (by omega)
              clear hno
              by_cases hi0 : 0 < i
              · have pi : (0 : Int) < (i : Int) := by omega
                have pb : (b == 0) = false := by rw [beq_eq_false_iff_ne]; omega
                clear hz0 hzz eu
                replace he := Hush.mk he
                go_wp2_with (go_at_call 22; refine (rin8_calls _ _).mono ?_; rintro e w' ⟨rfl, ew⟩; obtain rfl := ew.symm; rw [hc])
                go_ret3
                exact ⟨by rw [← he.it]; rfl, rfl⟩
              · have pi : ¬ (0 : Int) < (i : Int) := by omega
                clear hz0 hzz eu
                replace he := Hush.mk he
                go_wp2_with (go_at_call 22; refine (rin8_calls _ _).mono ?_; rintro e w' ⟨rfl, ew⟩; obtain rfl := ew.symm; rw [hc])
                go_ret3
                exact ⟨by rw [← he.it]; rfl, rfl⟩
          · have eu : un z = (z : Int) / 2 := by rw [un, if_neg hpar]; omega
            have pp : (((z : Int) % 2) == 1) = false := by rw [beq_eq_false_iff_ne]; omega
            by_cases hz0 : 0 < i ∧ b = 0
            · rw [if_pos (.inl hz0)] at he
              have pi : (0 : Int) < (i : Int) := by omega
              have pb : (b == 0) = true := by simp [hz0.2]
              clear hz0 eu
              replace he := Hush.mk he
              go_wp2
              go_ret3
              exact ⟨by rw [← he.it]; rfl, rfl⟩
            by_cases hzz : 2199023255552 < z
            · rw [if_pos (.inr hzz)] at he
              have hc : canB ((z : Int) / 2) = false := by rw [← eu]; exact Bool.eq_false_iff.2 fun h => absurd (canB_un.1 h) (by omega)
              by_cases hi0 : 0 < i
              · have pi : (0 : Int) < (i : Int) := by omega
                have pb : (b == 0) = false := by rw [beq_eq_false_iff_ne]; omega
                clear hz0 hzz eu
                replace he := Hush.mk he
                go_wp2_with (go_at_call 22; refine (rin8_calls _ _).mono ?_; rintro e w' ⟨rfl, ew⟩; obtain rfl := ew.symm; rw [hc])
                go_ret3
                exact ⟨by rw [← he.it]; rfl, rfl⟩
              · have pi : ¬ (0 : Int) < (i : Int) := by omega
                clear hz0 hzz eu
                replace he := Hush.mk he
                go_wp2_with (go_at_call 22; refine (rin8_calls _ _).mono ?_; rintro e w' ⟨rfl, ew⟩; obtain rfl := ew.symm; rw [hc])
                go_ret3
                exact ⟨by rw [← he.it]; rfl, rfl⟩
            · have hno : ¬ ((0 < i ∧ b = 0) ∨ 2199023255552 < z) := by omega
              rw [if_neg hno, eu] at he
              have hc : canB ((z : Int) / 2) = true := by rw [← eu]; exact canB_un.2 (by omega)
              clear hno
              by_cases hi0 : 0 < i
              · have pi : (0 : Int) < (i : Int) := by omega
                have pb : (b == 0) = false := by rw [beq_eq_false_iff_ne]; omega
                clear hz0 hzz eu
                replace he := Hush.mk he
                go_wp2_with (go_at_call 22; refine (rin8_calls _ _).mono ?_; rintro e w' ⟨rfl, ew⟩; obtain rfl := ew.symm; rw [hc])
                go_ret3
                exact ⟨by rw [← he.it]; rfl, rfl⟩
              · have pi : ¬ (0 : Int) < (i : Int) := by omega
                clear hz0 hzz eu
                replace he := Hush.mk he
                go_wp2_with (go_at_call 22; refine (rin8_calls _ _).mono ?_; rintro e w' ⟨rfl, ew⟩; obtain rfl := ew.symm; rw [hc])
                go_ret3
                exact ⟨by rw [← he.it]; rfl, rfl⟩
        · rw [if_neg hlt] at he
          replace he := Hush.mk he
          replace hu2 := Hush.mk hu2
          go_wp2
          go_roundw
          case rel => exact ⟨i + 1, z, uu * 128, by omega, rfl, congrArg (Value.int .i64) (by rw [e5]; simp), by go_num, hzl, hu2.it, by rw [show 6 - (i + 1) = 5 - i by omega]; exact he.it, trivial⟩
          case measure => simp [intOf]; omega
      · have i6 : ¬ (i : Int) < 6 := by omega
        have he2 : readL l = (0, 0, 8) := by rw [← he, show i = 6 by omega]; rfl
        replace he2 := Hush.mk he2
        clear he hu hx
        go_wp2
        go_ret3
        exact ⟨by rw [he2.it]; rfl, rfl⟩
    · have ik : ¬ (i : Int) < (n : Int) := by omega
      have he2 : readL l = (0, 0, 8) := by
        by_cases h6 : i = 6
        · subst h6; exact he.symm
        · rw [← he, show 6 - i = (5 - i) + 1 by omega, List.drop_of_length_le (by omega)]; rfl
      replace he2 := Hush.mk he2
      clear he hu hx
      go_wp2
      go_ret3
      exact ⟨by rw [he2.it]; rfl, rfl⟩

end Go.Proofs.Ythlklooaljaedaa
