/- What box.turnSide gives. -/
import Derived.Test.YtondjoilcpcneaaBox2
import Derived.BigRegion
namespace Go.Proofs.Ytondjoilcpcneaa
open Go.RowKit Go.ChangeShapes Go.WideShapes Go.ChangeAt
set_option linter.unusedSimpArgs false
set_option linter.unusedVariables false
attribute [local go_sem] plus_size plus_drew dn_set dn_alloc dn_plus plus_dn cell_plus frozen_plus set_plus cell_alloc frozen_alloc set_alloc

theorem wp_named {P : Program} {c : Code} {Q : Exit → Act → World → Prop} {a : Act} {W : World} (T : World) (h : ∃ x, W = plus T x) (k : ∀ W', (∃ x, W' = plus T x) → c.wp P Q a W') : c.wp P Q a W := k W h
theorem ex_set {W T : World} {b o : Nat} {v : Value} (h : ∃ x, W = plus T x) (hb : b < T.heap.size) : ∃ x, W.setCell ⟨b, o, none⟩ v = plus (T.setCell ⟨b, o, none⟩ v) x := by
  obtain ⟨x, rfl⟩ := h
  exact ⟨x, plus_setCell T x b o v hb⟩

attribute [local go_sem] ix3_0 ix3_1 ix3_2 ix9_0 ix9_1 ix9_2

set_option maxHeartbeats 4000000 in
theorem turnSide_walk (b o b2 o2 : Nat) (v1 v2 k0 k1 k2 l0 h0 l1 h1 l2 h2 p0 q0 p1 q1 p2 q2 s0 t0 s1 t1 s2 t2 L H : Int) (w : World) (c1 : w.cell? ⟨b, o, none⟩ = some (.int .i64 v1)) (f1 : w.frozen? ⟨b, o, none⟩ = false) (c2 : w.cell? ⟨b2, o2, none⟩ = some (.int .i64 v2)) (f2 : w.frozen? ⟨b2, o2, none⟩ = false)
    (hb : b < w.heap.size) (hb2 : b2 < w.heap.size) (hne : o ≠ o2)
    (e0 : scale l0 h0 k0 = (p0, q0, 0)) (e1 : scale l1 h1 k1 = (p1, q1, 0)) (e2 : scale l2 h2 k2 = (p2, q2, 0)) (a0 : add 0 0 p0 q0 = (s0, t0, 0)) (a1 : add s0 t0 p1 q1 = (s1, t1, 0)) (a2 : add s1 t1 p2 q2 = (s2, t2, 0)) (d0 : quo s2 t2 256 = (L, H, 0)) :
    Calls Try.prog 30 #[.pointer (some ⟨b, o, none⟩), .pointer (some ⟨b2, o2, none⟩), .agg #[.int .i64 k0, .int .i64 k1, .int .i64 k2], .agg #[.int .i64 l0, .int .i64 h0, .int .i64 l1, .int .i64 h1, .int .i64 l2, .int .i64 h2]] w fun e w' =>
      e = .returned (.tuple #[]) ∧ ∃ x, w' = plus ((w.setCell ⟨b, o, none⟩ (.int .i64 L)).setCell ⟨b2, o2, none⟩ (.int .i64 H)) x := by
  go_enter Try.func30, Try.ntmps30
  go_wp2
  refine wp_loop_rounds 4 ?_
  rw [rounds_succ]
  go_wp2_with (first | (go_at_call 45; refine (plus_post (scale_calls _ _ _ _)).mono ?_; rintro e w' ⟨rfl, nx, rfl⟩) | (go_at_call 46; refine (plus_post (add_calls _ _ _ _ _)).mono ?_; rintro e w' ⟨rfl, nx, rfl⟩) | (go_at_call 47; refine (plus_post (div_calls _ _ _ _)).mono ?_; rintro e w' ⟨rfl, nx, rfl⟩))
  refine soak (((w.alloc (.cells #[.int .i64 k0, .int .i64 k1, .int .i64 k2] 32)).alloc (.cells #[.int .i64 l0, .int .i64 h0, .int .i64 l1, .int .i64 h1, .int .i64 l2, .int .i64 h2] 59)).alloc (.cells #[.int .i64 s0, .int .i64 t0] 56)) (by with_reducible repeat (first | exact ex_refl _ | apply ex_alloc | apply ex_plus | apply ex_drew | apply ex_drewN)) (fun y0 => ?_)
  rw [rounds_succ]
  go_wp2_with (first | (go_at_call 45; refine (plus_post (scale_calls _ _ _ _)).mono ?_; rintro e w' ⟨rfl, nx, rfl⟩) | (go_at_call 46; refine (plus_post (add_calls _ _ _ _ _)).mono ?_; rintro e w' ⟨rfl, nx, rfl⟩) | (go_at_call 47; refine (plus_post (div_calls _ _ _ _)).mono ?_; rintro e w' ⟨rfl, nx, rfl⟩))
  refine soak (((w.alloc (.cells #[.int .i64 k0, .int .i64 k1, .int .i64 k2] 32)).alloc (.cells #[.int .i64 l0, .int .i64 h0, .int .i64 l1, .int .i64 h1, .int .i64 l2, .int .i64 h2] 59)).alloc (.cells #[.int .i64 s1, .int .i64 t1] 56)) (by with_reducible repeat (first | exact ex_refl _ | apply ex_alloc | apply ex_plus | apply ex_drew | apply ex_drewN)) (fun y1 => ?_)
  rw [rounds_succ]
  go_wp2_with (first | (go_at_call 45; refine (plus_post (scale_calls _ _ _ _)).mono ?_; rintro e w' ⟨rfl, nx, rfl⟩) | (go_at_call 46; refine (plus_post (add_calls _ _ _ _ _)).mono ?_; rintro e w' ⟨rfl, nx, rfl⟩) | (go_at_call 47; refine (plus_post (div_calls _ _ _ _)).mono ?_; rintro e w' ⟨rfl, nx, rfl⟩))
  refine soak (((w.alloc (.cells #[.int .i64 k0, .int .i64 k1, .int .i64 k2] 32)).alloc (.cells #[.int .i64 l0, .int .i64 h0, .int .i64 l1, .int .i64 h1, .int .i64 l2, .int .i64 h2] 59)).alloc (.cells #[.int .i64 s2, .int .i64 t2] 56)) (by with_reducible repeat (first | exact ex_refl _ | apply ex_alloc | apply ex_plus | apply ex_drew | apply ex_drewN)) (fun y2 => ?_)
  rw [rounds_succ]
  go_wp2_with (first | (go_at_call 45; refine (plus_post (scale_calls _ _ _ _)).mono ?_; rintro e w' ⟨rfl, nx, rfl⟩) | (go_at_call 46; refine (plus_post (add_calls _ _ _ _ _)).mono ?_; rintro e w' ⟨rfl, nx, rfl⟩) | (go_at_call 47; refine (plus_post (div_calls _ _ _ _)).mono ?_; rintro e w' ⟨rfl, nx, rfl⟩))
  refine wp_named (((w.alloc (.cells #[.int .i64 k0, .int .i64 k1, .int .i64 k2] 32)).alloc (.cells #[.int .i64 l0, .int .i64 h0, .int .i64 l1, .int .i64 h1, .int .i64 l2, .int .i64 h2] 59)).alloc (.cells #[.int .i64 L, .int .i64 H] 56)) (by with_reducible repeat (first | exact ex_refl _ | apply ex_alloc | apply ex_plus | apply ex_drew | apply ex_drewN)) (fun W' hW => ?_)
  have g1 : W'.cell? ⟨w.heap.size + 1 + 1, 0, none⟩ = some (.int .i64 L) := by obtain ⟨x, rfl⟩ := hW; simp [go_sem, ↓IntWalk.iteOmega]
  have g2 : W'.cell? ⟨w.heap.size + 1 + 1, 1, none⟩ = some (.int .i64 H) := by obtain ⟨x, rfl⟩ := hW; simp [go_sem, ↓IntWalk.iteOmega]
  have hw : ∃ x, W' = plus w x := by obtain ⟨x, rfl⟩ := hW; exact by with_reducible repeat (first | exact ex_refl _ | apply ex_alloc | apply ex_plus | apply ex_drew | apply ex_drewN)
  have c1' : W'.cell? ⟨b, o, none⟩ = some (.int .i64 v1) := by obtain ⟨x, rfl⟩ := hw; rw [plus_cell _ _ _ _ hb, c1]
  have c2' : W'.cell? ⟨b2, o2, none⟩ = some (.int .i64 v2) := by obtain ⟨x, rfl⟩ := hw; rw [plus_cell _ _ _ _ hb2, c2]
  have f1' : W'.frozen? ⟨b, o, none⟩ = false := by obtain ⟨x, rfl⟩ := hw; rw [plus_frozen _ _ _ _ hb, f1]
  have f2' : W'.frozen? ⟨b2, o2, none⟩ = false := by obtain ⟨x, rfl⟩ := hw; rw [plus_frozen _ _ _ _ hb2, f2]
  have hne1 : ¬ w.heap.size + 1 + 1 = b := by omega
  have hne2 : ¬ b = w.heap.size + 1 + 1 := by omega
  clear hW c1 c2 f1 f2 e0 e1 e2 a0 a1 a2 d0
  go_region
  all_goals go_wp2
  all_goals
    first | exact bodyPost_end (v := .tuple #[]) (by simp [results, Try.results30, go_sem]) rfl ⟨rfl, ex_drew (ex_set (ex_set hw hb) (by simpa using hb2))⟩ | exact bodyPost_ret (v := .tuple #[]) (by simp [results, Try.results30, go_sem]) rfl ⟨rfl, ex_drew (ex_set (ex_set hw hb) (by simpa using hb2))⟩

end Go.Proofs.Ytondjoilcpcneaa
