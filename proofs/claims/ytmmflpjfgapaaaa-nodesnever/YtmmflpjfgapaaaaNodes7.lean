/- What dioramaref06.Parents gives. -/
import Derived.Test.YtmmflpjfgapaaaaNodes6
namespace Go.Proofs.Ytmmflpjfgapaaaa
open Go.RowKit Go.ChangeShapes Go.WideShapes Go.ChangeAt
set_option linter.unusedSimpArgs false
set_option linter.unusedVariables false
attribute [local go_sem] plus_size plus_drew dn_set dn_alloc dn_plus plus_dn cell_plus frozen_plus set_plus cell_alloc frozen_alloc set_alloc

def parentsIn (gr : Gr) (h : Int × Int) (i k : Nat) : List (Int × Int) := parentsTo gr h i ++ (((nth [] gr.ks i).take k).filter fun x => decide (x = h)).map fun _ => ((i : Int), (nth dSl gr.sl i).gen)
theorem parentsIn_zero (gr : Gr) (h : Int × Int) (i : Nat) : parentsIn gr h i 0 = parentsTo gr h i := by simp [parentsIn]
theorem parentsIn_all (gr : Gr) (h : Int × Int) (i : Nat) : parentsIn gr h i (nth [] gr.ks i).length = parentsTo gr h (i + 1) := by rw [parentsIn, List.take_length]; rfl
theorem parentsIn_succ {gr : Gr} {h : Int × Int} {i k : Nat} (hk : k < (nth [] gr.ks i).length) : parentsIn gr h i (k + 1) = parentsIn gr h i k ++ (if nth (0, 0) (nth [] gr.ks i) k = h then [((i : Int), (nth dSl gr.sl i).gen)] else []) := by
  rw [parentsIn, take_nth (d := ((0, 0) : Int × Int)) hk, List.filter_append, List.map_append, ← List.append_assoc]
  rw [parentsIn]
  congr 1
  split
  · rename_i e; simp [e]
  · rename_i e; simp [e]
theorem parentsTo_le {gr : Gr} {h : Int × Int} (hr : rowsOk gr = true) : ∀ k, k ≤ gr.ks.length → (parentsTo gr h k).length ≤ 16 * k
  | 0, _ => Nat.zero_le _
  | k + 1, hk => by
    have ih := parentsTo_le (h := h) hr k (by omega)
    have h1 := (rows_at hr (i := k) (by omega)).1
    have h2 : ((nth [] gr.ks k).filter fun x => decide (x = h)).length ≤ (nth [] gr.ks k).length := List.length_filter_le _ _
    rw [parentsTo, List.length_append, List.length_map]
    omega
theorem parentsIn_le {gr : Gr} {h : Int × Int} (hr : rowsOk gr = true) {i : Nat} (hi : i < gr.ks.length) (k : Nat) : (parentsIn gr h i k).length ≤ 16 * i + 16 := by
  have ih := parentsTo_le (h := h) hr i (by omega)
  have h1 := (rows_at hr hi).1
  have h2 : (((nth [] gr.ks i).take k).filter fun x => decide (x = h)).length ≤ ((nth [] gr.ks i).take k).length := List.length_filter_le _ _
  rw [List.length_take] at h2
  rw [parentsIn, List.length_append, List.length_map]
  omega

set_option maxRecDepth 100000 in
set_option maxHeartbeats 8000000 in
theorem gparents_calls (ao : Option Addr) (n cap : Nat) (ko : Option Addr) (kn kcap : Nat) (hs : List RH) (gr : Gr) (s g : Int) (w : World) (hG : GrAt w ao n ko kn hs gr) :
    Calls Try.prog 30 #[.agg #[.slice ao n cap, .slice ko kn kcap], .agg #[.int .i64 s, .int .i64 g]] w fun e w' => RetT f2 w (parentsL gr (s, g)) (.int .i64 (askErr gr (s, g) (s, g))) e w' := by
  have hlen := hG.kl
  have hkh := hG.kh.len
  have hsl := hG.sl.len
  have b3 := hG.n2
  rcases ask_err gr (s, g) (s, g) with he | he | he
  rotate_left
  · rw [he, show parentsL gr (s, g) = [] by rw [parentsL, he]; rfl]
    go_enter Try.func30, Try.ntmps30
    go_wp2_with (go_at_call 52; refine (plus_post (asked_is he (hG.ex (by with_reducible repeat (first | exact ex_refl _ | exact ex_more | apply ex_alloc | apply ex_plus | apply ex_drew | apply ex_drewN))))).mono ?_; rintro e w' ⟨rfl, nx, rfl⟩)
    exact bodyPost_ret (v := .tuple #[.slice none 0 0, .int .i64 8]) (by simp [results, Try.results30, go_sem]) rfl ⟨_, _, _, rfl, (by with_reducible repeat (first | exact ex_refl _ | exact ex_more | apply ex_alloc | apply ex_plus | apply ex_drew | apply ex_drewN)), Lay.nil⟩
  · rw [he, show parentsL gr (s, g) = [] by rw [parentsL, he]; rfl]
    go_enter Try.func30, Try.ntmps30
    go_wp2_with (go_at_call 52; refine (plus_post (asked_is he (hG.ex (by with_reducible repeat (first | exact ex_refl _ | exact ex_more | apply ex_alloc | apply ex_plus | apply ex_drew | apply ex_drewN))))).mono ?_; rintro e w' ⟨rfl, nx, rfl⟩)
    exact bodyPost_ret (v := .tuple #[.slice none 0 0, .int .i64 50]) (by simp [results, Try.results30, go_sem]) rfl ⟨_, _, _, rfl, (by with_reducible repeat (first | exact ex_refl _ | exact ex_more | apply ex_alloc | apply ex_plus | apply ex_drew | apply ex_drewN)), Lay.nil⟩
  obtain ⟨hok, hh, _⟩ := ask_ok he
  obtain ⟨_, h2, h3, _⟩ := gr_parts hok
  rw [he, show parentsL gr (s, g) = parentsTo gr (s, g) kn by rw [parentsL, he, hlen]; rfl]
  go_enter Try.func30, Try.ntmps30
  go_wp2_with (go_at_call 52; refine (plus_post (asked_is he (hG.ex (by with_reducible repeat (first | exact ex_refl _ | exact ex_more | apply ex_alloc | apply ex_plus | apply ex_drew | apply ex_drewN))))).mono ?_; rintro e w' ⟨rfl, nx, rfl⟩)
  go_loopw [7, 8] (fun v i_ wr => ∃ (i : Nat) (ao' : Option Addr) (cap' : Nat), i ≤ kn ∧ v = .slice ao' (parentsTo gr (s, g) i).length cap' ∧ i_ = .int .i64 i ∧ (∃ y, wr = plus (plus ((w.alloc (.cells #[.slice ao n cap, .slice ko kn kcap] 27)).alloc (.cells #[.int .i64 s, .int .i64 g] 29)) nx) y) ∧ Own 29 2 f2 (plus ((w.alloc (.cells #[.slice ao n cap, .slice ko kn kcap] 27)).alloc (.cells #[.int .i64 s, .int .i64 g] 29)) nx) wr ao' (parentsTo gr (s, g) i).length cap' (parentsTo gr (s, g) i)) (fun _ i_ _ => kn - (intOf i_).toNat)
  case atStart => exact ⟨0, none, 0, Nat.zero_le _, rfl, rfl, (by with_reducible repeat (first | exact ex_refl _ | exact ex_more | apply ex_alloc | apply ex_plus | apply ex_drew | apply ex_drewN)), own_nil⟩
  case round =>
    obtain ⟨i, ao', cap', hi, rfl, rfl, ⟨x, rfl⟩, hown⟩ := hrel
    by_cases hil : i < kn
    rotate_left
    · have ii : ¬ (i : Int) < (kn : Int) := by omega
      obtain rfl : i = kn := by omega
      go_wp2
      exact bodyPost_ret (v := .tuple #[.slice ao' (parentsTo gr (s, g) i).length cap', .int .i64 0]) (by simp [results, Try.results30, go_sem]) rfl ⟨_, _, _, rfl, (by with_reducible repeat (first | exact ex_refl _ | exact ex_more | apply ex_alloc | apply ex_plus | apply ex_drew | apply ex_drewN)), hown.lay⟩
    have ii : (i : Int) < (kn : Int) := by omega
    have iin : (i : Int) < (n : Int) := by omega
    obtain ⟨kg, kf, rfl, hkg, hkc⟩ := hG.kh.some (by omega)
    obtain ⟨sg, sf, rfl, hsg, hsc⟩ := hG.sl.some (by omega)
    have c1 := cellR hkh hkc hil
    obtain ⟨v0, v1⟩ := cellS hsl hsc (k := i) (by omega)
    have hrow := hG.row i (by omega)
    have hrl := hrow.len
    have hn3 := hG.n3 i (by omega)
    go_wp2
    go_loopw [7, 9] (fun v k_ wr => ∃ (k : Nat) (ao' : Option Addr) (cap' : Nat), k ≤ (nth dRH hs i).n ∧ v = .slice ao' (parentsIn gr (s, g) i k).length cap' ∧ k_ = .int .i64 k ∧ (∃ y, wr = plus (plus ((w.alloc (.cells #[.slice (some ⟨sg, sf, none⟩) n cap, .slice (some ⟨kg, kf, none⟩) kn kcap] 27)).alloc (.cells #[.int .i64 s, .int .i64 g] 29)) nx) y) ∧ Own 29 2 f2 (plus ((w.alloc (.cells #[.slice (some ⟨sg, sf, none⟩) n cap, .slice (some ⟨kg, kf, none⟩) kn kcap] 27)).alloc (.cells #[.int .i64 s, .int .i64 g] 29)) nx) wr ao' (parentsIn gr (s, g) i k).length cap' (parentsIn gr (s, g) i k)) (fun _ k_ _ => (nth dRH hs i).n - (intOf k_).toNat)
    case atStart => exact ⟨0, ao', cap', Nat.zero_le _, by rw [parentsIn_zero], rfl, (by with_reducible repeat (first | exact ex_refl _ | exact ex_more | apply ex_alloc | apply ex_plus | apply ex_drew | apply ex_drewN)), by rw [parentsIn_zero]; exact hown⟩
    case round =>
      clear hown
      obtain ⟨k, ao', cap', hk, rfl, rfl, ⟨y, rfl⟩, hown⟩ := hrel
      have hle := parentsIn_le (h := (s, g)) h3 (i := i) (by omega) k
      by_cases hkl : k < (nth dRH hs i).n
      rotate_left
      · have ik : ¬ (k : Int) < ((nth dRH hs i).n : Int) := by omega
        obtain rfl : k = (nth dRH hs i).n := by omega
        have hall := parentsIn_all gr (s, g) i
        rw [hrl] at hall
        go_wp2
        go_roundw
        case rel => exact ⟨i + 1, ao', cap', by omega, by rw [← hall], by go_num, (by with_reducible repeat (first | exact ex_refl _ | exact ex_more | apply ex_alloc | apply ex_plus | apply ex_drew | apply ex_drewN)), by rw [← hall]; exact hown⟩
        case measure => simp [intOf]; omega
      have ik : (k : Int) < ((nth dRH hs i).n : Int) := by omega
      obtain ⟨rg, ro, hra, hrg, hrc⟩ := hrow.some (by omega)
      obtain ⟨x0, x1⟩ := cell2 hrl hrc hkl
      rw [hra] at c1
      have hsucc := parentsIn_succ (gr := gr) (h := (s, g)) (i := i) (k := k) (by omega)
      by_cases e0 : (nth (0, 0) (nth [] gr.ks i) k).1 = s
      rotate_left
      · have d0 : ((nth (0, 0) (nth [] gr.ks i) k).1 == s) = false := by rw [beq_eq_false_iff_ne]; exact e0
        rw [if_neg (fun e => e0 (by rw [e])), List.append_nil] at hsucc
        go_wp2
        refine region_plus (by kernel_rfl) (by kernel_rfl) ?_
        (repeat (go_big_quiet_step (fail)))
        refine wpQuiet_nil ?_
        rintro _ ⟨x2, rfl⟩
        go_wp2
        go_roundw
        case rel => exact ⟨k + 1, ao', cap', by omega, by rw [hsucc], by go_num, (by with_reducible repeat (first | exact ex_refl _ | exact ex_more | apply ex_alloc | apply ex_plus | apply ex_drew | apply ex_drewN)), by rw [hsucc]; exact hown.ex (by with_reducible repeat (first | exact ex_refl _ | exact ex_more | apply ex_alloc | apply ex_plus | apply ex_drew | apply ex_drewN))⟩
        case measure => simp [intOf]; omega
      by_cases e1 : (nth (0, 0) (nth [] gr.ks i) k).2 = g
      rotate_left
      · have d1 : ((nth (0, 0) (nth [] gr.ks i) k).2 == g) = false := by rw [beq_eq_false_iff_ne]; exact e1
        rw [if_neg (fun e => e1 (by rw [e])), List.append_nil] at hsucc
        go_wp2
        refine region_plus (by kernel_rfl) (by kernel_rfl) ?_
        (repeat (go_big_quiet_step (fail)))
        refine wpQuiet_nil ?_
        rintro _ ⟨x2, rfl⟩
        go_wp2
        go_roundw
        case rel => exact ⟨k + 1, ao', cap', by omega, by rw [hsucc], by go_num, (by with_reducible repeat (first | exact ex_refl _ | exact ex_more | apply ex_alloc | apply ex_plus | apply ex_drew | apply ex_drewN)), by rw [hsucc]; exact hown.ex (by with_reducible repeat (first | exact ex_refl _ | exact ex_more | apply ex_alloc | apply ex_plus | apply ex_drew | apply ex_drewN))⟩
        case measure => simp [intOf]; omega
      rw [if_pos (Prod.ext e0 e1)] at hsucc
      have hsn : (parentsIn gr (s, g) i (k + 1)).length = (parentsIn gr (s, g) i k).length + 1 := by rw [hsucc, List.length_append]; rfl
      go_wp2
      refine region_plus (by kernel_rfl) (by kernel_rfl) ?_
      (repeat (go_big_quiet_step (fail)))
      refine wpQuiet_nil ?_
      rintro _ ⟨x2, rfl⟩
      go_wp2_with (at_builtin; (refine wpList_append_lay (T := (plus ((w.alloc (.cells #[.slice (some ⟨sg, sf, none⟩) n cap, .slice (some ⟨kg, kf, none⟩) kn kcap] 27)).alloc (.cells #[.int .i64 s, .int .i64 g] 29)) nx)) rfl _ _ rfl kinH f2_c f2_1 rfl (by with_reducible repeat (first | exact ex_refl _ | exact ex_more | apply ex_alloc | apply ex_plus | apply ex_drew | apply ex_drewN)) (hown.ex (by with_reducible repeat (first | exact ex_refl _ | exact ex_more | apply ex_alloc | apply ex_plus | apply ex_drew | apply ex_drewN))) rfl (l2 := [((i : Int), (nth dSl gr.sl i).gen)]) ⟨rfl, .inr ⟨_, 0, rfl, by (simp [go_sem]; try omega), fun jj u hu => by match jj, hu with | 0, hu => (simp [f2] at hu; subst hu; simp [go_sem, ↓IntWalk.iteOmega]) | 1, hu => (simp [f2] at hu; subst hu; simp [go_sem, ↓IntWalk.iteOmega]) | jj + 2, hu => simp [f2] at hu⟩⟩ (by omega) (by decide) ?_; intro ao'' cap'' y' hown'))
      go_roundw
      case rel => exact ⟨k + 1, ao'', cap'', by omega, by rw [hsn], by go_num, ⟨y', rfl⟩, by rw [hsn, hsucc]; exact hown'⟩
      case measure => simp [intOf]; omega

end Go.Proofs.Ytmmflpjfgapaaaa
