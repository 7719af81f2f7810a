/- What the document's own Corners and Turned give (dioramaref03). -/
import Derived.Test.YtondjoilcpcneaaBoxP
import Derived.Test.YtondjoilcpcneaaBoxR2
import Derived.Test.YtondjoilcpcneaaBox7
namespace Go.Proofs.Ytondjoilcpcneaa
open Go.RowKit Go.ChangeShapes Go.WideShapes Go.ChangeAt
set_option linter.unusedSimpArgs false
set_option linter.unusedVariables false
attribute [local go_sem] plus_size plus_drew dn_set dn_alloc dn_plus plus_dn cell_plus frozen_plus set_plus cell_alloc frozen_alloc set_alloc

theorem Owns.mono {T T0 w : World} {v : Value} {n : Nat} {p : Nat → V3} (h : Owns T w v n p) (hs : T0.heap.size ≤ T.heap.size) : Owns T0 w v n p := by
  refine ⟨h.1, ?_⟩
  rcases h.2 with h0 | ⟨g, cap, cur, h1, h2, h3⟩
  · exact .inl h0
  · exact .inr ⟨g, cap, cur, h1, by omega, h3⟩
theorem Owns.frozen {T w : World} {g n cap : Nat} {p : Nat → V3} (h : Owns T w (.slice (some ⟨g, 0, none⟩) n cap) n p) (j : Nat) : w.frozen? ⟨g, j, none⟩ = false := World.ownsRow.frozenAt h j
theorem Lies.congr {w : World} {g off n : Nat} {p q : Nat → V3} (h : Lies w g off n p) (e : ∀ k, k < n → p k = q k) : Lies w g off n q :=
  ⟨h.1, fun k hk => by rw [← e k hk]; exact h.2 k hk⟩

set_option maxHeartbeats 4000000 in
theorem rcorners_calls (a b c d o f : Int) (w : World) : Calls Try.prog 37 #[.agg #[.int .i64 a, .int .i64 b, .int .i64 c, .int .i64 d, .int .i64 o, .int .i64 f]] w fun e w' => ∃ g cap y, e = .returned (.slice (some ⟨g, 0, none⟩) 8 cap) ∧ w' = plus w y ∧ w.heap.size ≤ g ∧ Owns w (plus w y) (.slice (some ⟨g, 0, none⟩) 8 cap) 8 (cornerN ⟨⟨a, b, c⟩, ⟨d, o, f⟩⟩) := by
  go_enter Try.func37, Try.ntmps37
  go_wp2
  go_loopw [3, 4] (fun v i wr => ∃ (k : Nat) (ao : Option Addr) (cap : Nat), k ≤ 8 ∧ i = .int .i64 k ∧ v = .slice ao k cap ∧ (∃ y, wr = plus (w.alloc (.cells #[.int .i64 a, .int .i64 b, .int .i64 c, .int .i64 d, .int .i64 o, .int .i64 f] 25)) y) ∧ Owns (w.alloc (.cells #[.int .i64 a, .int .i64 b, .int .i64 c, .int .i64 d, .int .i64 o, .int .i64 f] 25)) wr v k (cornerN ⟨⟨a, b, c⟩, ⟨d, o, f⟩⟩)) (fun _ i _ => 8 - (intOf i).toNat)
  case atStart => exact ⟨0, none, 0, by decide, rfl, rfl, (by with_reducible repeat (first | exact ex_refl _ | exact ex_more | apply ex_alloc | apply ex_plus | apply ex_drew | apply ex_drewN)), owns_nil _ _ _⟩
  case round =>
    obtain ⟨k, ao, cap, hk, rfl, rfl, ⟨y, rfl⟩, hown⟩ := hrel
    by_cases hkl : k < 8
    · rcases (show k = 0 ∨ k = 1 ∨ k = 2 ∨ k = 3 ∨ k = 4 ∨ k = 5 ∨ k = 6 ∨ k = 7 by omega) with rfl | rfl | rfl | rfl | rfl | rfl | rfl | rfl
      · go_wp2_with (at_builtin; refine wpList_append_pts (T := w.alloc (.cells #[.int .i64 a, .int .i64 b, .int .i64 c, .int .i64 d, .int .i64 o, .int .i64 f] 25)) rfl _ _ rfl _ (0) (cornerN ⟨⟨a, b, c⟩, ⟨d, o, f⟩⟩) rfl (by with_reducible repeat (first | exact ex_refl _ | exact ex_more | apply ex_alloc | apply ex_plus | apply ex_drew | apply ex_drewN)) (hown.ex (by with_reducible repeat (first | exact ex_refl _ | exact ex_more | apply ex_alloc | apply ex_plus | apply ex_drew | apply ex_drewN))) _ 0 1 1 rfl ⟨by simp [go_sem]; try omega, fun j hj => by match j, hj with | 0, _ => simp [go_sem, ↓IntWalk.iteOmega, cornerN]⟩ (by decide) (by omega) ?_; intro g' cap' y' hown' hg')
        go_roundw
        case rel => exact ⟨1, _, cap', by decide, rfl, rfl, ⟨y', rfl⟩, hown'⟩
        case measure => simp [intOf]
      · go_wp2_with (at_builtin; refine wpList_append_pts (T := w.alloc (.cells #[.int .i64 a, .int .i64 b, .int .i64 c, .int .i64 d, .int .i64 o, .int .i64 f] 25)) rfl _ _ rfl _ (1) (cornerN ⟨⟨a, b, c⟩, ⟨d, o, f⟩⟩) rfl (by with_reducible repeat (first | exact ex_refl _ | exact ex_more | apply ex_alloc | apply ex_plus | apply ex_drew | apply ex_drewN)) (hown.ex (by with_reducible repeat (first | exact ex_refl _ | exact ex_more | apply ex_alloc | apply ex_plus | apply ex_drew | apply ex_drewN))) _ 0 1 1 rfl ⟨by simp [go_sem]; try omega, fun j hj => by match j, hj with | 0, _ => simp [go_sem, ↓IntWalk.iteOmega, cornerN]⟩ (by decide) (by omega) ?_; intro g' cap' y' hown' hg')
        go_roundw
        case rel => exact ⟨2, _, cap', by decide, rfl, rfl, ⟨y', rfl⟩, hown'⟩
        case measure => simp [intOf]
      · go_wp2_with (at_builtin; refine wpList_append_pts (T := w.alloc (.cells #[.int .i64 a, .int .i64 b, .int .i64 c, .int .i64 d, .int .i64 o, .int .i64 f] 25)) rfl _ _ rfl _ (2) (cornerN ⟨⟨a, b, c⟩, ⟨d, o, f⟩⟩) rfl (by with_reducible repeat (first | exact ex_refl _ | exact ex_more | apply ex_alloc | apply ex_plus | apply ex_drew | apply ex_drewN)) (hown.ex (by with_reducible repeat (first | exact ex_refl _ | exact ex_more | apply ex_alloc | apply ex_plus | apply ex_drew | apply ex_drewN))) _ 0 1 1 rfl ⟨by simp [go_sem]; try omega, fun j hj => by match j, hj with | 0, _ => simp [go_sem, ↓IntWalk.iteOmega, cornerN]⟩ (by decide) (by omega) ?_; intro g' cap' y' hown' hg')
        go_roundw
        case rel => exact ⟨3, _, cap', by decide, rfl, rfl, ⟨y', rfl⟩, hown'⟩
        case measure => simp [intOf]
      · go_wp2_with (at_builtin; refine wpList_append_pts (T := w.alloc (.cells #[.int .i64 a, .int .i64 b, .int .i64 c, .int .i64 d, .int .i64 o, .int .i64 f] 25)) rfl _ _ rfl _ (3) (cornerN ⟨⟨a, b, c⟩, ⟨d, o, f⟩⟩) rfl (by with_reducible repeat (first | exact ex_refl _ | exact ex_more | apply ex_alloc | apply ex_plus | apply ex_drew | apply ex_drewN)) (hown.ex (by with_reducible repeat (first | exact ex_refl _ | exact ex_more | apply ex_alloc | apply ex_plus | apply ex_drew | apply ex_drewN))) _ 0 1 1 rfl ⟨by simp [go_sem]; try omega, fun j hj => by match j, hj with | 0, _ => simp [go_sem, ↓IntWalk.iteOmega, cornerN]⟩ (by decide) (by omega) ?_; intro g' cap' y' hown' hg')
        go_roundw
        case rel => exact ⟨4, _, cap', by decide, rfl, rfl, ⟨y', rfl⟩, hown'⟩
        case measure => simp [intOf]
      · go_wp2_with (at_builtin; refine wpList_append_pts (T := w.alloc (.cells #[.int .i64 a, .int .i64 b, .int .i64 c, .int .i64 d, .int .i64 o, .int .i64 f] 25)) rfl _ _ rfl _ (4) (cornerN ⟨⟨a, b, c⟩, ⟨d, o, f⟩⟩) rfl (by with_reducible repeat (first | exact ex_refl _ | exact ex_more | apply ex_alloc | apply ex_plus | apply ex_drew | apply ex_drewN)) (hown.ex (by with_reducible repeat (first | exact ex_refl _ | exact ex_more | apply ex_alloc | apply ex_plus | apply ex_drew | apply ex_drewN))) _ 0 1 1 rfl ⟨by simp [go_sem]; try omega, fun j hj => by match j, hj with | 0, _ => simp [go_sem, ↓IntWalk.iteOmega, cornerN]⟩ (by decide) (by omega) ?_; intro g' cap' y' hown' hg')
        go_roundw
        case rel => exact ⟨5, _, cap', by decide, rfl, rfl, ⟨y', rfl⟩, hown'⟩
        case measure => simp [intOf]
      · go_wp2_with (at_builtin; refine wpList_append_pts (T := w.alloc (.cells #[.int .i64 a, .int .i64 b, .int .i64 c, .int .i64 d, .int .i64 o, .int .i64 f] 25)) rfl _ _ rfl _ (5) (cornerN ⟨⟨a, b, c⟩, ⟨d, o, f⟩⟩) rfl (by with_reducible repeat (first | exact ex_refl _ | exact ex_more | apply ex_alloc | apply ex_plus | apply ex_drew | apply ex_drewN)) (hown.ex (by with_reducible repeat (first | exact ex_refl _ | exact ex_more | apply ex_alloc | apply ex_plus | apply ex_drew | apply ex_drewN))) _ 0 1 1 rfl ⟨by simp [go_sem]; try omega, fun j hj => by match j, hj with | 0, _ => simp [go_sem, ↓IntWalk.iteOmega, cornerN]⟩ (by decide) (by omega) ?_; intro g' cap' y' hown' hg')
        go_roundw
        case rel => exact ⟨6, _, cap', by decide, rfl, rfl, ⟨y', rfl⟩, hown'⟩
        case measure => simp [intOf]
      · go_wp2_with (at_builtin; refine wpList_append_pts (T := w.alloc (.cells #[.int .i64 a, .int .i64 b, .int .i64 c, .int .i64 d, .int .i64 o, .int .i64 f] 25)) rfl _ _ rfl _ (6) (cornerN ⟨⟨a, b, c⟩, ⟨d, o, f⟩⟩) rfl (by with_reducible repeat (first | exact ex_refl _ | exact ex_more | apply ex_alloc | apply ex_plus | apply ex_drew | apply ex_drewN)) (hown.ex (by with_reducible repeat (first | exact ex_refl _ | exact ex_more | apply ex_alloc | apply ex_plus | apply ex_drew | apply ex_drewN))) _ 0 1 1 rfl ⟨by simp [go_sem]; try omega, fun j hj => by match j, hj with | 0, _ => simp [go_sem, ↓IntWalk.iteOmega, cornerN]⟩ (by decide) (by omega) ?_; intro g' cap' y' hown' hg')
        go_roundw
        case rel => exact ⟨7, _, cap', by decide, rfl, rfl, ⟨y', rfl⟩, hown'⟩
        case measure => simp [intOf]
      · go_wp2_with (at_builtin; refine wpList_append_pts (T := w.alloc (.cells #[.int .i64 a, .int .i64 b, .int .i64 c, .int .i64 d, .int .i64 o, .int .i64 f] 25)) rfl _ _ rfl _ (7) (cornerN ⟨⟨a, b, c⟩, ⟨d, o, f⟩⟩) rfl (by with_reducible repeat (first | exact ex_refl _ | exact ex_more | apply ex_alloc | apply ex_plus | apply ex_drew | apply ex_drewN)) (hown.ex (by with_reducible repeat (first | exact ex_refl _ | exact ex_more | apply ex_alloc | apply ex_plus | apply ex_drew | apply ex_drewN))) _ 0 1 1 rfl ⟨by simp [go_sem]; try omega, fun j hj => by match j, hj with | 0, _ => simp [go_sem, ↓IntWalk.iteOmega, cornerN]⟩ (by decide) (by omega) ?_; intro g' cap' y' hown' hg')
        go_roundw
        case rel => exact ⟨8, _, cap', by decide, rfl, rfl, ⟨y', rfl⟩, hown'⟩
        case measure => simp [intOf]
    · obtain rfl : k = 8 := by omega
      obtain ⟨g, cap2, e, hb, _⟩ := World.ownsRow.form hown (by decide)
      simp only [Value.slice.injEq, true_and] at e
      obtain ⟨rfl, rfl⟩ := e
      go_wp2
      go_ret
      obtain ⟨y2, hy2⟩ : ∃ y2, plus (w.alloc (.cells #[.int .i64 a, .int .i64 b, .int .i64 c, .int .i64 d, .int .i64 o, .int .i64 f] 25)) y = plus w y2 := (by with_reducible repeat (first | exact ex_refl _ | exact ex_more | apply ex_alloc | apply ex_plus | apply ex_drew | apply ex_drewN))
      rw [hy2] at hown ⊢
      exact ⟨g, cap, y2, rfl, rfl, by simp at hb; omega, hown.mono (by simp)⟩

end Go.Proofs.Ytondjoilcpcneaa
