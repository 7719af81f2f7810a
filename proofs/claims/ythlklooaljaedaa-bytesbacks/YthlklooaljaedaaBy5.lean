/- What List gives. -/
import Derived.Test.YthlklooaljaedaaBy4
namespace Go.Proofs.Ythlklooaljaedaa
open Go.RowKit Go.ChangeShapes Go.WideShapes Go.ChangeAt
set_option linter.unusedSimpArgs false
set_option linter.unusedVariables false
attribute [local go_sem] plus_size plus_drew dn_set dn_alloc dn_plus plus_dn cell_plus frozen_plus set_plus cell_alloc frozen_alloc set_alloc

def RetB (w : World) (p : List Int × Int) (e : Ending) (w' : World) : Prop := ∃ ao' cap', e = .returned (.tuple #[.slice ao' p.1.length cap', .int .i64 p.2]) ∧ (∃ y, w' = plus w y) ∧ Own 5 1 fU w w' ao' p.1.length cap' p.1
theorem retB_nil {w : World} {k : Int} : RetB w ([], k) (.returned (.tuple #[.slice none 0 0, .int .i64 k])) w := ⟨none, 0, rfl, ex_refl w, own_nil⟩
theorem retB_ex {w w' : World} {k : Int} (h : ∃ y, w' = plus w y) : RetB w ([], k) (.returned (.tuple #[.slice none 0 0, .int .i64 k])) w' := ⟨none, 0, rfl, h, own_nil⟩

theorem ex_trans8 {T w w1 : World} (h : ∃ y, w = plus T y) (h1 : ∃ y, w1 = plus w y) : ∃ y, w1 = plus T y := by
  obtain ⟨x, rfl⟩ := h
  obtain ⟨y, rfl⟩ := h1
  exact ex_plus (ex_plus (ex_refl T))
theorem upto_succ8 {p : Nat → Prop} {k : Nat} (h : ∀ j, j < k → p j) (hk : p k) : ∀ j, j < k + 1 → p j := by
  intro j hj
  rcases Nat.lt_or_eq_of_le (Nat.le_of_lt_succ hj) with e | e
  · exact h j e
  · exact e ▸ hk

set_option maxHeartbeats 2000000 in
theorem list_calls (ao : Option Addr) (n cap : Nat) (l : List Int) (w : World) (hl : Lay fI w ao n l) (hn : n ≤ 9223372036854775807) :
    Calls Try.prog 8 #[.slice ao n cap] w fun e w' => RetB w (listL l) e w' := by
  have hlen := hl.len
  by_cases hbig : 65536 < n
  · rw [show listL l = ([], 4) by rw [listL, if_pos (by omega)]]
    have ib : (65536 : Int) < (n : Int) := by omega
    go_enter Try.func8, Try.ntmps8
    go_wp2
    go_ret2
    exact retB_nil
  have hl6 : l.length ≤ 65536 := by omega
  have ib : ¬ (65536 : Int) < (n : Int) := by omega
  have hcn : canB (n : Int) = true := canB_len (by omega)
  go_enter Try.func8, Try.ntmps8
  go_wp2_with (go_at_call 19; refine (with_calls _ _ _ _ _ [] _ (ex_refl _) own_nil hcn (by omega)).mono ?_; rintro e w1 ⟨ao2, cap2, rfl, hw1, hown2⟩; rw [List.nil_append, Nat.zero_add] at hown2)
  go_loopw [4, 6, 15] (fun b u c wr => ∃ (k m : Nat) (ao' : Option Addr) (cap' : Nat), k ≤ n ∧ m = (pfx l k).length ∧ b = .slice ao' m cap' ∧ c = .int .i64 k ∧ (∀ j, j < k → canB (nth 0 l j) = true) ∧ (∃ y, wr = plus w y) ∧ Own 5 1 fU w wr ao' m cap' (pfx l k)) (fun _ _ c _ => n - (intOf c).toNat)
  case atStart => exact ⟨0, _, ao2, cap2, Nat.zero_le _, rfl, by rw [pfx_zero, hlen], rfl, fun j hj => by omega, hw1, by rw [pfx_zero, hlen]; exact hown2⟩
  case round =>
    obtain ⟨k, m, ao', cap', hk, hm, rfl, rfl, hs, ⟨y, rfl⟩, hown⟩ := hrel
    have hpl := pfx_len hl6 k (by omega) hs
    have hm1 : m ≤ 1000000 := by omega
    by_cases hkl : k < n
    · obtain ⟨g, off, rfl, hg, hcell⟩ := hl.some (by omega)
      have c0 := cellI hlen hcell hkl
      have ik : (k : Int) < (n : Int) := by omega
      cases hc : canB (nth 0 l k)
      · have hbad := list_bad hl6 (by omega) hc
        replace hbad := Hush.mk hbad
        go_wp2_with (go_at_call 20; refine (maybe_calls _ _).mono ?_; rintro e w' ⟨rfl, ew⟩; obtain rfl := ew.symm; rw [hc])
        go_ret2
        rw [hbad.it]
        exact retB_ex (by with_reducible repeat (first | exact ex_refl _ | exact ex_more8 | apply ex_alloc | apply ex_plus | apply ex_drew | apply ex_drewN))
      · have hnx := pfx_succ (l := l) (k := k) (by omega)
        replace hnx := Hush.mk hnx
        replace hm := Hush.mk hm
        go_wp2_with (first | (go_at_call 20; refine (maybe_calls _ _).mono ?_; rintro e w' ⟨rfl, ew⟩; obtain rfl := ew.symm; rw [hc]) | (go_at_call 19; refine (with_calls w _ _ _ _ (pfx l k) _ (by with_reducible repeat (first | exact ex_refl _ | exact ex_more8 | apply ex_alloc | apply ex_plus | apply ex_drew | apply ex_drewN)) (hown.ex (by with_reducible repeat (first | exact ex_refl _ | exact ex_more8 | apply ex_alloc | apply ex_plus | apply ex_drew | apply ex_drewN))) hc hm1).mono ?_; rintro e w1 ⟨ao2, cap2, rfl, hw1, hown2⟩))
        go_roundw
        case rel => exact ⟨k + 1, _, ao2, cap2, by omega, by rw [hnx.it, List.length_append, ← hm.it], rfl, by go_num, upto_succ8 hs hc, hw1, by rw [hnx.it]; exact hown2⟩
        case measure => simp [intOf]; omega
    · have ik : ¬ (k : Int) < (n : Int) := by omega
      obtain rfl : n = k := by omega
      have hall := pfx_all hl6 (fun j hj => hs j (by omega))
      rw [hlen] at hall
      replace hall := Hush.mk hall
      replace hm := Hush.mk hm
      go_wp2
      go_ret2
      rw [hall.it]
      exact ⟨ao', cap', by rw [← hm.it]; rfl, (by with_reducible repeat (first | exact ex_refl _ | exact ex_more8 | apply ex_alloc | apply ex_plus | apply ex_drew | apply ex_drewN)), by rw [← hm.it]; exact hown.ex (by with_reducible repeat (first | exact ex_refl _ | exact ex_more8 | apply ex_alloc | apply ex_plus | apply ex_drew | apply ex_drewN))⟩

set_option maxHeartbeats 2000000 in
theorem rlist_calls (ao : Option Addr) (n cap : Nat) (l : List Int) (w : World) (hl : Lay fI w ao n l) (hn : n ≤ 9223372036854775807) :
    Calls Try.prog 16 #[.slice ao n cap] w fun e w' => RetB w (listL l) e w' := by
  have hlen := hl.len
  by_cases hbig : 65536 < n
  · rw [show listL l = ([], 4) by rw [listL, if_pos (by omega)]]
    have ib : (65536 : Int) < (n : Int) := by omega
    go_enter Try.func16, Try.ntmps16
    go_wp2
    go_ret2
    exact retB_nil
  have hl6 : l.length ≤ 65536 := by omega
  have ib : ¬ (65536 : Int) < (n : Int) := by omega
  have hcn : canB (n : Int) = true := canB_len (by omega)
  go_enter Try.func16, Try.ntmps16
  go_wp2_with (go_at_call 23; refine (rbytes_calls _ _ hcn).mono ?_; rintro e w1 ⟨ao2, cap2, rfl, hw1, hown2⟩)
  go_loopw [4, 5] (fun b c wr => ∃ (k m : Nat) (ao' : Option Addr) (cap' : Nat), k ≤ n ∧ m = (pfx l k).length ∧ b = .slice ao' m cap' ∧ c = .int .i64 k ∧ (∀ j, j < k → canB (nth 0 l j) = true) ∧ (∃ y, wr = plus w y) ∧ Own 5 1 fU w wr ao' m cap' (pfx l k)) (fun _ c _ => n - (intOf c).toNat)
  case atStart => exact ⟨0, _, ao2, cap2, Nat.zero_le _, rfl, by rw [pfx_zero, hlen], rfl, fun j hj => by omega, hw1, by rw [pfx_zero, hlen]; exact hown2⟩
  case round =>
    obtain ⟨k, m, ao', cap', hk, hm, rfl, rfl, hs, ⟨y, rfl⟩, hown⟩ := hrel
    have hpl := pfx_len hl6 k (by omega) hs
    have hm1 : m ≤ 1000000 := by omega
    by_cases hkl : k < n
    · obtain ⟨g, off, rfl, hg, hcell⟩ := hl.some (by omega)
      have c0 := cellI hlen hcell hkl
      have ik : (k : Int) < (n : Int) := by omega
      cases hc : canB (nth 0 l k)
      · have hbad := list_bad hl6 (by omega) hc
        replace hbad := Hush.mk hbad
        go_wp2_with (go_at_call 22; refine (rin8_calls _ _).mono ?_; rintro e w' ⟨rfl, ew⟩; obtain rfl := ew.symm; rw [hc])
        go_ret2
        rw [hbad.it]
        exact retB_ex (by with_reducible repeat (first | exact ex_refl _ | exact ex_more8 | apply ex_alloc | apply ex_plus | apply ex_drew | apply ex_drewN))
      · have hnx := pfx_succ (l := l) (k := k) (by omega)
        have hbl := bytesOf_len hc
        replace hnx := Hush.mk hnx
        replace hm := Hush.mk hm
        go_wp2_with (first | (go_at_call 22; refine (rin8_calls _ _).mono ?_; rintro e w' ⟨rfl, ew⟩; obtain rfl := ew.symm; rw [hc]) | (go_at_call 23; refine (rbytes_calls _ _ hc).mono ?_; rintro e w1 ⟨ao2, cap2, rfl, hw1, hown2⟩; have hw2 := hw1; have hown4 := hown.ex hw1) | (at_builtin; refine wpList_append_far (T := w) (l2 := bytesOf (nth 0 l k)) rfl _ _ rfl kinU fU_c fU_1 rfl (ex_trans8 (by with_reducible repeat (first | exact ex_refl _ | exact ex_more8 | apply ex_alloc | apply ex_plus | apply ex_drew | apply ex_drewN)) hw1) (hown.ex hw1) rfl (hown2.lay) (by omega) (by decide) ?_; intro ao3 cap3 y3 hown3))
        go_roundw
        case rel => exact ⟨k + 1, _, ao3, cap3, by omega, by rw [hnx.it, List.length_append, ← hm.it], rfl, by go_num, upto_succ8 hs hc, (by with_reducible repeat (first | exact ex_refl _ | exact ex_more8 | apply ex_alloc | apply ex_plus | apply ex_drew | apply ex_drewN)), by rw [hnx.it]; exact hown3.ex (by with_reducible repeat (first | exact ex_refl _ | exact ex_more8 | apply ex_alloc | apply ex_plus | apply ex_drew | apply ex_drewN))⟩
        case measure => simp [intOf]; omega
    · have ik : ¬ (k : Int) < (n : Int) := by omega
      obtain rfl : n = k := by omega
      have hall := pfx_all hl6 (fun j hj => hs j (by omega))
      rw [hlen] at hall
      replace hall := Hush.mk hall
      replace hm := Hush.mk hm
      go_wp2
      go_ret2
      rw [hall.it]
      exact ⟨ao', cap', by rw [← hm.it]; rfl, (by with_reducible repeat (first | exact ex_refl _ | exact ex_more8 | apply ex_alloc | apply ex_plus | apply ex_drew | apply ex_drewN)), by rw [← hm.it]; exact hown.ex (by with_reducible repeat (first | exact ex_refl _ | exact ex_more8 | apply ex_alloc | apply ex_plus | apply ex_drew | apply ex_drewN))⟩

end Go.Proofs.Ythlklooaljaedaa
