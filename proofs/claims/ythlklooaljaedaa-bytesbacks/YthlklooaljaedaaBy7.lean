/- What dioramaref08.ReadList gives. -/
import Derived.Test.YthlklooaljaedaaBy6
namespace Go.Proofs.Ythlklooaljaedaa
open Go.RowKit Go.ChangeShapes Go.WideShapes Go.ChangeAt
set_option linter.unusedSimpArgs false
set_option linter.unusedVariables false
attribute [local go_sem] plus_size plus_drew dn_set dn_alloc dn_plus plus_dn cell_plus frozen_plus set_plus cell_alloc frozen_alloc set_alloc

attribute [local go_sem] minB8

set_option maxHeartbeats 4000000 in
theorem rreadList_calls (ao : Option Addr) (n cap : Nat) (l : List Int) (most : Int) (w : World) (hl : Lay fU w ao n l) (hb : Byt l) (hn : n ≤ 9223372036854775807) (hcap : n ≤ cap) :
    Calls Try.prog 17 #[.slice ao n cap, .int .i64 most] w fun e w' => RetN w (readsL l most) e w' := by
  have hlen := hl.len
  by_cases m0 : most < 0
  · rw [reads_arg (.inl m0)]
    go_enter Try.func17, Try.ntmps17
    go_wp2
    go_ret3
    exact retN_ex (by with_reducible repeat (first | exact ex_refl _ | exact ex_more8 | apply ex_alloc | apply ex_plus | apply ex_drew | apply ex_drewN))
  by_cases m1 : 65536 < most
  · rw [reads_arg (.inr m1)]
    go_enter Try.func17, Try.ntmps17
    go_wp2
    go_ret3
    exact retN_ex (by with_reducible repeat (first | exact ex_refl _ | exact ex_more8 | apply ex_alloc | apply ex_plus | apply ex_drew | apply ex_drewN))
  have hmost : ¬ (most < 0 ∨ 65536 < most) := by omega
  by_cases he : (readL l).2.2 = 0
  rotate_left
  · rw [reads_bad hmost (by simp [badL, he])]
    have hr := read_err l he
    clear he hmost
    go_enter Try.func17, Try.ntmps17
    go_wp2_with (go_at_call 15; refine (rread_calls _ _ _ l _ (hl.ex (by with_reducible repeat (first | exact ex_refl _ | exact ex_more8 | apply ex_alloc | apply ex_plus | apply ex_drew | apply ex_drewN))) hb hn).mono ?_; rintro e w' ⟨rfl, ew⟩; obtain rfl := ew.symm; rw [hr])
    go_ret3
    exact retN_ex (by with_reducible repeat (first | exact ex_refl _ | exact ex_more8 | apply ex_alloc | apply ex_plus | apply ex_drew | apply ex_drewN))
  obtain ⟨c1, c2, c3, c4, c5⟩ := bytes_cut hb he
  obtain ⟨a, ha⟩ : ∃ a, (readL l).1 = a := ⟨_, rfl⟩
  obtain ⟨q, hq⟩ : ∃ q : Nat, (readL l).2.1 = (q : Int) := ⟨(readL l).2.1.toNat, by omega⟩
  have hr : readL l = (a, (q : Int), 0) := by rw [← ha, ← hq, ← he]
  have hqn : q ≤ n := by omega
  have hq1 : 1 ≤ q := by omega
  by_cases a0 : a < 0
  · rw [reads_bad hmost (by simp [badL, ha, a0])]
    clear he hmost c1 c2 c3 c4 c5 ha hq
    go_enter Try.func17, Try.ntmps17
    go_wp2_with (go_at_call 15; refine (rread_calls _ _ _ l _ (hl.ex (by with_reducible repeat (first | exact ex_refl _ | exact ex_more8 | apply ex_alloc | apply ex_plus | apply ex_drew | apply ex_drewN))) hb hn).mono ?_; rintro e w' ⟨rfl, ew⟩; obtain rfl := ew.symm; rw [hr])
    go_ret3
    exact retN_ex (by with_reducible repeat (first | exact ex_refl _ | exact ex_more8 | apply ex_alloc | apply ex_plus | apply ex_drew | apply ex_drewN))
  by_cases a1 : most < a
  · rw [reads_bad hmost (by simp [badL, ha, a1])]
    clear he hmost c1 c2 c3 c4 c5 ha hq
    go_enter Try.func17, Try.ntmps17
    go_wp2_with (go_at_call 15; refine (rread_calls _ _ _ l _ (hl.ex (by with_reducible repeat (first | exact ex_refl _ | exact ex_more8 | apply ex_alloc | apply ex_plus | apply ex_drew | apply ex_drewN))) hb hn).mono ?_; rintro e w' ⟨rfl, ew⟩; obtain rfl := ew.symm; rw [hr])
    go_ret3
    exact retN_ex (by with_reducible repeat (first | exact ex_refl _ | exact ex_more8 | apply ex_alloc | apply ex_plus | apply ex_drew | apply ex_drewN))
  obtain ⟨c, rfl⟩ : ∃ c : Nat, a = (c : Int) := ⟨a.toNat, by omega⟩
  have hgood := reads_good (l := l) (most := most) hmost (by simp [badL, ha, he]; omega)
  rw [hq, ha, Int.toNat_natCast, Int.toNat_natCast] at hgood
  replace hgood := Hush.mk hgood
  clear he hmost c1 c2 c3 c4 c5 ha hq
  have hc6 : c ≤ 65536 := by omega

  go_enter Try.func17, Try.ntmps17
  go_wp2_with (go_at_call 15; refine (rread_calls _ _ _ l _ (hl.ex (by with_reducible repeat (first | exact ex_refl _ | exact ex_more8 | apply ex_alloc | apply ex_plus | apply ex_drew | apply ex_drewN))) hb hn).mono ?_; rintro e w' ⟨rfl, ew⟩; obtain rfl := ew.symm; rw [hr])
  go_loopw [8, 10, 11, 12, 13, 14] (fun r s ctr v x z wr => ∃ (k p : Nat) (acc : List Int) (ao' : Option Addr) (cap' : Nat), k ≤ c ∧ p ≤ n ∧ r = .int .i64 p ∧ s = .slice ao' k cap' ∧ ctr = .int .i64 k ∧ getsL acc p (c - k) l = getsL [] q c l ∧ (∃ y, wr = plus w y) ∧ Own 3 1 fI w wr ao' k cap' acc) (fun _ _ ctr _ _ _ _ => c - (intOf ctr).toNat)
  case atStart => exact ⟨0, q, [], none, 0, Nat.zero_le _, hqn, rfl, rfl, rfl, rfl, (by with_reducible repeat (first | exact ex_refl _ | exact ex_more8 | apply ex_alloc | apply ex_plus | apply ex_drew | apply ex_drewN)), own_nil⟩
  case round =>
    obtain ⟨k, p, acc, ao', cap', hk, hp, rfl, rfl, rfl, hG, hy, hown⟩ := hrel
    obtain ⟨y, rfl⟩ := hy
    by_cases hkl : k < c
    · obtain ⟨g, off, rfl, hg, hcell⟩ := hl.some (by omega)
      have ik : (k : Int) < (c : Int) := by omega
      have ip : (p : Int) ≤ (n : Int) := by omega
      have hbd := hb.drop p
      have hld : (l.drop p).length = n - p := by rw [List.length_drop, hlen]
      have hdl : ∃ gd od, (gd = some (⟨g, od, none⟩ : Addr)) ∧ Lay fU w gd (n - p) (l.drop p) ∧ od = (if cap = p then off else off + p) := by
        by_cases hcp : cap = p
        · exact ⟨_, off, rfl, lay_end hlen (by omega), by rw [if_pos hcp]⟩
        · exact ⟨_, off + p, rfl, by have := lay_drop8 hl fU_c hp; rwa [Nat.mul_one] at this, by rw [if_neg hcp]⟩
      obtain ⟨_, od, rfl, hlay, hod⟩ := hdl
      by_cases he2 : (readL (l.drop p)).2.2 = 0
      · obtain ⟨d1, d2, d3, d4, d5⟩ := bytes_cut hbd he2
        obtain ⟨x, hx⟩ : ∃ x, (readL (l.drop p)).1 = x := ⟨_, rfl⟩
        obtain ⟨s, hs⟩ : ∃ s : Nat, (readL (l.drop p)).2.1 = (s : Int) := ⟨(readL (l.drop p)).2.1.toNat, by omega⟩
        have hr2 : readL (l.drop p) = (x, (s : Int), 0) := by rw [← hx, ← hs, ← he2]
        have hps : p + s ≤ n := by omega
        have hnext := getsL_next (acc := acc) (w := p) (c := c - (k + 1)) (l := l) he2
        rw [hx, hs, Int.toNat_natCast, show c - (k + 1) + 1 = c - k by omega, hG] at hnext
        replace hnext := Hush.mk hnext
        have hcp : ¬ cap = p := by omega
        clear d1 d2 d3 d4 d5 hx hs he2 hG
        rw [if_neg hcp] at hod
        subst hod
        go_wp2_with (first | (go_at_call 15; refine (rread_calls _ _ _ (l.drop p) _ (hlay.ex (by with_reducible repeat (first | exact ex_refl _ | exact ex_more8 | apply ex_alloc | apply ex_plus | apply ex_drew | apply ex_drewN))) hbd (by omega)).mono ?_; rintro e w' ⟨rfl, ew⟩; obtain rfl := ew.symm; rw [hr2]) | (at_builtin; refine wpList_append_far (T := w) rfl _ _ rfl kinI8 fI_c fI_1 rfl (by with_reducible repeat (first | exact ex_refl _ | exact ex_more8 | apply ex_alloc | apply ex_plus | apply ex_drew | apply ex_drewN)) (hown.ex (by with_reducible repeat (first | exact ex_refl _ | exact ex_more8 | apply ex_alloc | apply ex_plus | apply ex_drew | apply ex_drewN))) rfl (l2 := [x]) ⟨rfl, .inr ⟨_, 0, rfl, by simp [go_sem]; try omega, fun jj u hu => by match jj, hu with | 0, hu => (simp [fI] at hu; subst hu; simp [go_sem, ↓IntWalk.iteOmega]) | jj + 1, hu => simp [fI] at hu⟩⟩ (by omega) (by decide) ?_; intro ao2 cap2 y2 hown2))
        go_roundw
        case rel => exact ⟨k + 1, p + s, acc ++ [x], ao2, cap2, by omega, by omega, by go_num, by first | rfl | go_num, by go_num, hnext.it.symm, (by with_reducible repeat (first | exact ex_refl _ | exact ex_more8 | apply ex_alloc | apply ex_plus | apply ex_drew | apply ex_drewN)), hown2.ex (by with_reducible repeat (first | exact ex_refl _ | exact ex_more8 | apply ex_alloc | apply ex_plus | apply ex_drew | apply ex_drewN))⟩
        case measure => simp [intOf]; omega
      · have hr2 := read_err _ he2
        have hend := getsL_bad (acc := acc) (w := p) (c := c - (k + 1)) (l := l) he2
        rw [show c - (k + 1) + 1 = c - k by omega, hG] at hend
        rw [← hgood.it] at hend
        replace hend := Hush.mk hend
        clear he2 hG
        by_cases hcp : cap = p
        · rw [if_pos hcp] at hod
          subst hod hcp
          rw [show n - cap = 0 by omega] at hlay
          go_wp2_with (go_at_call 15; refine (rread_calls _ _ _ (l.drop cap) _ (hlay.ex (by with_reducible repeat (first | exact ex_refl _ | exact ex_more8 | apply ex_alloc | apply ex_plus | apply ex_drew | apply ex_drewN))) hbd (by omega)).mono ?_; rintro e w' ⟨rfl, ew⟩; obtain rfl := ew.symm; rw [hr2])
          go_ret3
          rw [hend.it]
          exact retN_ex (by with_reducible repeat (first | exact ex_refl _ | exact ex_more8 | apply ex_alloc | apply ex_plus | apply ex_drew | apply ex_drewN))
        · rw [if_neg hcp] at hod
          subst hod
          go_wp2_with (go_at_call 15; refine (rread_calls _ _ _ (l.drop p) _ (hlay.ex (by with_reducible repeat (first | exact ex_refl _ | exact ex_more8 | apply ex_alloc | apply ex_plus | apply ex_drew | apply ex_drewN))) hbd (by omega)).mono ?_; rintro e w' ⟨rfl, ew⟩; obtain rfl := ew.symm; rw [hr2])
          go_ret3
          rw [hend.it]
          exact retN_ex (by with_reducible repeat (first | exact ex_refl _ | exact ex_more8 | apply ex_alloc | apply ex_plus | apply ex_drew | apply ex_drewN))
    · have ik : ¬ (k : Int) < (c : Int) := by omega
      rw [show c - k = 0 by omega, getsL_zero] at hG
      have hend := hgood.it.trans hG.symm
      replace hend := Hush.mk hend
      clear hG
      go_wp2
      go_ret3
      rw [hend.it]
      exact ⟨ao', cap', by rw [show acc.length = k from hown.1]; rfl, (by with_reducible repeat (first | exact ex_refl _ | exact ex_more8 | apply ex_alloc | apply ex_plus | apply ex_drew | apply ex_drewN)), by rw [show acc.length = k from hown.1]; exact hown.ex (by with_reducible repeat (first | exact ex_refl _ | exact ex_more8 | apply ex_alloc | apply ex_plus | apply ex_drew | apply ex_drewN))⟩

end Go.Proofs.Ythlklooaljaedaa
