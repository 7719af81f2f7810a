/- What dioramaref06.Kids, Reaches, Parents and without give. -/
import Derived.Test.YtmmflpjfgapaaaaNodes5
namespace Go.Proofs.Ytmmflpjfgapaaaa
open Go.RowKit Go.ChangeShapes Go.WideShapes Go.ChangeAt
set_option linter.unusedSimpArgs false
set_option linter.unusedVariables false
attribute [local go_sem] plus_size plus_drew dn_set dn_alloc dn_plus plus_dn cell_plus frozen_plus set_plus cell_alloc frozen_alloc set_alloc

def kidsL (g : Gr) (h : Int × Int) : List (Int × Int) := if askErr g h h = 0 then rowAt g h else []
def parentsL (g : Gr) (h : Int × Int) : List (Int × Int) := if askErr g h h = 0 then parentsTo g h g.ks.length else []
def reachR (g : Gr) (a b : Int × Int) : Bool := if askErr g a b = 0 then reachB g a b else false
theorem ask_ok {g : Gr} {a b : Int × Int} (h : askErr g a b = 0) : grOk g = true ∧ heldIn g.sl a.1 a.2 = true ∧ heldIn g.sl b.1 b.2 = true := by
  unfold askErr at h
  split at h
  · rename_i hg
    split at h
    · rename_i hh; exact ⟨hg, hh.1, hh.2⟩
    · cases h
  · cases h
theorem asked_is {ao : Option Addr} {n cap : Nat} {ko : Option Addr} {kn kcap : Nat} {hs : List RH} {g : Gr} {h1 h2 i1 i2 er : Int} {w : World} (he : askErr g (h1, h2) (i1, i2) = er) (hG : GrAt w ao n ko kn hs g) :
    Calls Try.prog 52 #[.agg #[.slice ao n cap, .slice ko kn kcap], .agg #[.int .i64 h1, .int .i64 h2], .agg #[.int .i64 i1, .int .i64 i2]] w fun e w' => e = .returned (.int .i64 er) ∧ Below w.heap.size w w' := by
  subst he
  exact asked_calls ao n cap ko kn kcap hs g h1 h2 i1 i2 w hG
theorem ask_err (g : Gr) (a b : Int × Int) : askErr g a b = 0 ∨ askErr g a b = 8 ∨ askErr g a b = 50 := by
  unfold askErr
  split
  · split
    · exact .inl rfl
    · exact .inr (.inr rfl)
  · exact .inr (.inl rfl)

theorem gkids_calls (ao : Option Addr) (n cap : Nat) (ko : Option Addr) (kn kcap : Nat) (hs : List RH) (gr : Gr) (s g : Int) (w : World) (hG : GrAt w ao n ko kn hs gr) :
    Calls Try.prog 28 #[.agg #[.slice ao n cap, .slice ko kn kcap], .agg #[.int .i64 s, .int .i64 g]] w fun e w' => RetT f2 w (kidsL gr (s, g)) (.int .i64 (askErr gr (s, g) (s, g))) e w' := by
  have hlen := hG.kl
  have hkh := hG.kh.len
  have hsl := hG.sl.len
  rcases ask_err gr (s, g) (s, g) with he | he | he
  rotate_left
  · rw [he, show kidsL gr (s, g) = [] by rw [kidsL, he]; rfl]
    go_enter Try.func28, Try.ntmps28
    go_wp2_with (go_at_call 52; refine (plus_post (asked_is he (hG.ex (by with_reducible repeat (first | exact ex_refl _ | exact ex_more | apply ex_alloc | apply ex_plus | apply ex_drew | apply ex_drewN))))).mono ?_; rintro e w' ⟨rfl, nx, rfl⟩)
    exact bodyPost_ret (v := .tuple #[.slice none 0 0, .int .i64 8]) (by simp [results, Try.results28, go_sem]) rfl ⟨_, _, _, rfl, (by with_reducible repeat (first | exact ex_refl _ | exact ex_more | apply ex_alloc | apply ex_plus | apply ex_drew | apply ex_drewN)), Lay.nil⟩
  · rw [he, show kidsL gr (s, g) = [] by rw [kidsL, he]; rfl]
    go_enter Try.func28, Try.ntmps28
    go_wp2_with (go_at_call 52; refine (plus_post (asked_is he (hG.ex (by with_reducible repeat (first | exact ex_refl _ | exact ex_more | apply ex_alloc | apply ex_plus | apply ex_drew | apply ex_drewN))))).mono ?_; rintro e w' ⟨rfl, nx, rfl⟩)
    exact bodyPost_ret (v := .tuple #[.slice none 0 0, .int .i64 50]) (by simp [results, Try.results28, go_sem]) rfl ⟨_, _, _, rfl, (by with_reducible repeat (first | exact ex_refl _ | exact ex_more | apply ex_alloc | apply ex_plus | apply ex_drew | apply ex_drewN)), Lay.nil⟩
  obtain ⟨hok, hh, _⟩ := ask_ok he
  have hl := held_lt hh
  simp only at hl
  obtain ⟨_, h2, _, _⟩ := gr_parts hok
  obtain ⟨k, rfl⟩ : ∃ k : Nat, s = (k : Int) := ⟨s.toNat, by omega⟩
  rw [Int.toNat_natCast] at hl
  have hkl : k < kn := by omega
  have ik : (k : Int) < (kn : Int) := by omega
  rw [he, show kidsL gr ((k : Int), g) = nth [] gr.ks k by rw [kidsL, he]; show nth [] gr.ks ((k : Int)).toNat = _; rw [Int.toNat_natCast]]
  obtain ⟨kg, kf, rfl, hkg, hkc⟩ := hG.kh.some (by omega)
  have c1 := cellR hkh hkc hkl
  have hrow := hG.row k (by omega)
  go_enter Try.func28, Try.ntmps28
  go_wp2_with (go_at_call 52; refine (plus_post (asked_is he (hG.ex (by with_reducible repeat (first | exact ex_refl _ | exact ex_more | apply ex_alloc | apply ex_plus | apply ex_drew | apply ex_drewN))))).mono ?_; rintro e w' ⟨rfl, nx, rfl⟩)
  exact bodyPost_ret (v := .tuple #[.slice (nth dRH hs k).ao (nth dRH hs k).n (nth dRH hs k).cap, .int .i64 0]) (by simp [results, Try.results28, go_sem]) rfl ⟨_, _, _, rfl, (by with_reducible repeat (first | exact ex_refl _ | exact ex_more | apply ex_alloc | apply ex_plus | apply ex_drew | apply ex_drewN)), hrow.ex (by with_reducible repeat (first | exact ex_refl _ | exact ex_more | apply ex_alloc | apply ex_plus | apply ex_drew | apply ex_drewN))⟩

set_option maxHeartbeats 4000000 in
theorem greaches_calls (ao : Option Addr) (n cap : Nat) (ko : Option Addr) (kn kcap : Nat) (hs : List RH) (gr : Gr) (s g i1 i2 : Int) (w : World) (hG : GrAt w ao n ko kn hs gr) :
    Calls Try.prog 32 #[.agg #[.slice ao n cap, .slice ko kn kcap], .agg #[.int .i64 s, .int .i64 g], .agg #[.int .i64 i1, .int .i64 i2]] w fun e w' => e = .returned (.tuple #[.bool (reachR gr (s, g) (i1, i2)), .int .i64 (askErr gr (s, g) (i1, i2))]) ∧ Below w.heap.size w w' := by
  have hlen := hG.kl
  have hkh := hG.kh.len
  have hsl := hG.sl.len
  rcases ask_err gr (s, g) (i1, i2) with he | he | he
  rotate_left
  · rw [he, show reachR gr (s, g) (i1, i2) = false by rw [reachR, he]; rfl]
    go_enter Try.func32, Try.ntmps32
    go_wp2_with (go_at_call 52; refine (plus_post (asked_is he (hG.ex (by with_reducible repeat (first | exact ex_refl _ | exact ex_more | apply ex_alloc | apply ex_plus | apply ex_drew | apply ex_drewN))))).mono ?_; rintro e w' ⟨rfl, nx, rfl⟩)
    exact bodyPost_ret (v := .tuple #[.bool false, .int .i64 8]) (by simp [results, Try.results32, go_sem]) rfl ⟨rfl, (by with_reducible repeat (first | exact Below.refl _ _ | apply ba | apply bp | apply bd | apply bn))⟩
  · rw [he, show reachR gr (s, g) (i1, i2) = false by rw [reachR, he]; rfl]
    go_enter Try.func32, Try.ntmps32
    go_wp2_with (go_at_call 52; refine (plus_post (asked_is he (hG.ex (by with_reducible repeat (first | exact ex_refl _ | exact ex_more | apply ex_alloc | apply ex_plus | apply ex_drew | apply ex_drewN))))).mono ?_; rintro e w' ⟨rfl, nx, rfl⟩)
    exact bodyPost_ret (v := .tuple #[.bool false, .int .i64 50]) (by simp [results, Try.results32, go_sem]) rfl ⟨rfl, (by with_reducible repeat (first | exact Below.refl _ _ | apply ba | apply bp | apply bd | apply bn))⟩
  obtain ⟨hok, hh, hh2⟩ := ask_ok he
  have hl := held_lt hh
  have hl2 := held_lt hh2
  simp only at hl hl2
  obtain ⟨_, h2, h3, _⟩ := gr_parts hok
  obtain ⟨k, rfl⟩ : ∃ k : Nat, s = (k : Int) := ⟨s.toNat, by omega⟩
  obtain ⟨j, rfl⟩ : ∃ j : Nat, i1 = (j : Int) := ⟨i1.toNat, by omega⟩
  rw [Int.toNat_natCast] at hl hl2
  have hkl : k < kn := by omega
  have hjl : j < kn := by omega
  have ij : (j : Int) < (kn : Int) := by omega
  have hval : reachR gr ((k : Int), g) ((j : Int), i2) = nth false (below (kof gr.ks) kn k) j := by
    rw [reachR, he, if_pos rfl]
    show nth false (below (kof gr.ks) gr.ks.length ((k : Int)).toNat) ((j : Int)).toNat = _
    rw [Int.toNat_natCast, Int.toNat_natCast, hlen]
  rw [he, hval]
  go_enter Try.func32, Try.ntmps32
  go_wp2_with (first | (go_at_call 52; refine (plus_post (asked_is he (hG.ex (by with_reducible repeat (first | exact ex_refl _ | exact ex_more | apply ex_alloc | apply ex_plus | apply ex_drew | apply ex_drewN))))).mono ?_; rintro e w' ⟨rfl, nx, rfl⟩) | (go_at_call 55; refine (below_calls _ _ _ _ _ _ hs gr _ _ (hG.ex (by with_reducible repeat (first | exact ex_refl _ | exact ex_more | apply ex_alloc | apply ex_plus | apply ex_drew | apply ex_drewN))) (kin6_of h2 h3) hkl).mono ?_; rintro e w1 ⟨b, bc, rfl, hw1, ob⟩; have q0 : w1.cell? ⟨w.heap.size + 1 + 1, 0, none⟩ = some (.int .i64 j) := cell_ex hw1 (by simp [go_sem, ↓IntWalk.iteOmega]); obtain ⟨m0, m1, m2, m3⟩ := ob.markAt hjl))
  exact bodyPost_ret (v := .tuple #[.bool (nth false (below (kof gr.ks) kn k) j), .int .i64 0]) (by simp [results, Try.results32, go_sem]) rfl ⟨rfl, below_ex (by with_reducible repeat (first | exact ex_refl _ | exact ex_more | apply ex_alloc | apply ex_plus | apply ex_drew | apply ex_drewN | (apply ex_on; assumption)))⟩

set_option maxHeartbeats 4000000 in
theorem without_calls (ao : Option Addr) (n cap : Nat) (l : List (Int × Int)) (s g : Int) (w : World) (hl : Lay f2 w ao n l) (hn : n ≤ 1000) :
    Calls Try.prog 54 #[.slice ao n cap, .agg #[.int .i64 s, .int .i64 g]] w fun e w' => RetO 29 2 f2 w (without (s, g) l) e w' := by
  have hlen := hl.len
  go_enter Try.func54, Try.ntmps54
  go_wp2
  go_loopw [5, 6] (fun v i wr => ∃ (k : Nat) (ao' : Option Addr) (cap' : Nat), k ≤ n ∧ v = .slice ao' (without (s, g) (l.take k)).length cap' ∧ i = .int .i64 k ∧ (∃ y, wr = plus (w.alloc (.cells #[.int .i64 s, .int .i64 g] 29)) y) ∧ Own 29 2 f2 (w.alloc (.cells #[.int .i64 s, .int .i64 g] 29)) wr ao' (without (s, g) (l.take k)).length cap' (without (s, g) (l.take k))) (fun _ i _ => n - (intOf i).toNat)
  case atStart => exact ⟨0, none, 0, Nat.zero_le _, rfl, rfl, (by with_reducible repeat (first | exact ex_refl _ | exact ex_more | apply ex_alloc | apply ex_plus | apply ex_drew | apply ex_drewN)), own_nil⟩
  case round =>
    obtain ⟨k, ao', cap', hk, rfl, rfl, ⟨x, rfl⟩, hown⟩ := hrel
    have hle : (without (s, g) (l.take k)).length ≤ k := Nat.le_trans (List.length_filter_le _ _) (by rw [List.length_take]; omega)
    by_cases hkl : k < n
    rotate_left
    · have ik : ¬ (k : Int) < (n : Int) := by omega
      obtain rfl : k = n := by omega
      rw [List.take_of_length_le (by omega)] at hown
      go_wp2
      go_ret
      refine ⟨ao', _, cap', ?_, (by with_reducible repeat (first | exact ex_refl _ | exact ex_more | apply ex_alloc | apply ex_plus | apply ex_drew | apply ex_drewN)), hown.base (by simp [go_sem])⟩
      rw [List.take_of_length_le (by omega)]
      rfl
    have ik : (k : Int) < (n : Int) := by omega
    obtain ⟨g1, o1, rfl, hg1, hc1⟩ := hl.some (by omega)
    obtain ⟨c0, c1⟩ := cell2 hlen hc1 hkl
    have hsucc : without (s, g) (l.take (k + 1)) = without (s, g) (l.take k) ++ (if nth (0, 0) l k = (s, g) then [] else [nth (0, 0) l k]) := by
      rw [take_nth (d := ((0, 0) : Int × Int)) (by omega), without, List.filter_append]
      congr 1
      split
      · rename_i e; simp [e]
      · rename_i e; simp [e]
    by_cases e0 : (nth (0, 0) l k).1 = s
    · by_cases e1 : (nth (0, 0) l k).2 = g
      · have hs : without (s, g) (l.take (k + 1)) = without (s, g) (l.take k) := by rw [hsucc, if_pos (Prod.ext e0 e1), List.append_nil]
        go_wp2
        refine region_plus (by kernel_rfl) (by kernel_rfl) ?_
        (repeat (go_big_quiet_step (fail)))
        refine wpQuiet_nil ?_
        rintro _ ⟨x2, rfl⟩
        go_wp2
        go_roundw
        case rel => exact ⟨k + 1, ao', cap', by omega, by rw [hs], by go_num, (by with_reducible repeat (first | exact ex_refl _ | exact ex_more | apply ex_alloc | apply ex_plus | apply ex_drew | apply ex_drewN)), by rw [hs]; exact hown.ex (by with_reducible repeat (first | exact ex_refl _ | exact ex_more | apply ex_alloc | apply ex_plus | apply ex_drew | apply ex_drewN))⟩
        case measure => simp [intOf]; omega
      · have d1 : ((nth (0, 0) l k).2 == g) = false := by rw [beq_eq_false_iff_ne]; exact e1
        have hs : without (s, g) (l.take (k + 1)) = without (s, g) (l.take k) ++ [nth (0, 0) l k] := by rw [hsucc, if_neg (fun e => e1 (by rw [e]))]
        have hsn : (without (s, g) (l.take (k + 1))).length = (without (s, g) (l.take k)).length + 1 := by rw [hs, List.length_append]; rfl
        go_wp2
        refine region_plus (by kernel_rfl) (by kernel_rfl) ?_
        (repeat (go_big_quiet_step (fail)))
        refine wpQuiet_nil ?_
        rintro _ ⟨x2, rfl⟩
        go_wp2_with (at_builtin; (refine wpList_append_lay (T := (w.alloc (.cells #[.int .i64 s, .int .i64 g] 29))) rfl _ _ rfl kinH f2_c f2_1 rfl (by with_reducible repeat (first | exact ex_refl _ | exact ex_more | apply ex_alloc | apply ex_plus | apply ex_drew | apply ex_drewN)) (hown.ex (by with_reducible repeat (first | exact ex_refl _ | exact ex_more | apply ex_alloc | apply ex_plus | apply ex_drew | apply ex_drewN))) rfl (l2 := [nth (0, 0) l k]) ⟨rfl, .inr ⟨_, 0, rfl, by (simp [go_sem]; try omega), fun jj u hu => by match jj, hu with | 0, hu => (simp [f2] at hu; subst hu; simp [go_sem, ↓IntWalk.iteOmega]; try (first | exact e0 | exact e0.symm)) | 1, hu => (simp [f2] at hu; subst hu; simp [go_sem, ↓IntWalk.iteOmega]) | jj + 2, hu => simp [f2] at hu⟩⟩ (by omega) (by decide) ?_; intro ao'' cap'' y' hown'))
        go_roundw
        case rel => exact ⟨k + 1, ao'', cap'', by omega, by rw [hsn], by go_num, ⟨y', rfl⟩, by rw [hsn, hs]; exact hown'⟩
        case measure => simp [intOf]; omega
    · have d0 : ((nth (0, 0) l k).1 == s) = false := by rw [beq_eq_false_iff_ne]; exact e0
      have hs : without (s, g) (l.take (k + 1)) = without (s, g) (l.take k) ++ [nth (0, 0) l k] := by rw [hsucc, if_neg (fun e => e0 (by rw [e]))]
      have hsn : (without (s, g) (l.take (k + 1))).length = (without (s, g) (l.take k)).length + 1 := by rw [hs, List.length_append]; rfl
      go_wp2
      refine region_plus (by kernel_rfl) (by kernel_rfl) ?_
      (repeat (go_big_quiet_step (fail)))
      refine wpQuiet_nil ?_
      rintro _ ⟨x2, rfl⟩
      go_wp2_with (at_builtin; (refine wpList_append_lay (T := (w.alloc (.cells #[.int .i64 s, .int .i64 g] 29))) rfl _ _ rfl kinH f2_c f2_1 rfl (by with_reducible repeat (first | exact ex_refl _ | exact ex_more | apply ex_alloc | apply ex_plus | apply ex_drew | apply ex_drewN)) (hown.ex (by with_reducible repeat (first | exact ex_refl _ | exact ex_more | apply ex_alloc | apply ex_plus | apply ex_drew | apply ex_drewN))) rfl (l2 := [nth (0, 0) l k]) ⟨rfl, .inr ⟨_, 0, rfl, by (simp [go_sem]; try omega), fun jj u hu => by match jj, hu with | 0, hu => (simp [f2] at hu; subst hu; simp [go_sem, ↓IntWalk.iteOmega]; try (first | exact e0 | exact e0.symm)) | 1, hu => (simp [f2] at hu; subst hu; simp [go_sem, ↓IntWalk.iteOmega]) | jj + 2, hu => simp [f2] at hu⟩⟩ (by omega) (by decide) ?_; intro ao'' cap'' y' hown'))
      go_roundw
      case rel => exact ⟨k + 1, ao'', cap'', by omega, by rw [hsn], by go_num, ⟨y', rfl⟩, by rw [hsn, hs]; exact hown'⟩
      case measure => simp [intOf]; omega

end Go.Proofs.Ytmmflpjfgapaaaa
