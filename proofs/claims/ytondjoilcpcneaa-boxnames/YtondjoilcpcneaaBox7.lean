/- What box.Turned gives. -/
import Derived.Test.YtondjoilcpcneaaBox5
import Derived.Test.YtondjoilcpcneaaBox6
namespace Go.Proofs.Ytondjoilcpcneaa
open Go.RowKit Go.ChangeShapes Go.WideShapes Go.ChangeAt
set_option linter.unusedSimpArgs false
set_option linter.unusedVariables false
attribute [local go_sem] plus_size plus_drew dn_set dn_alloc dn_plus plus_dn cell_plus frozen_plus set_plus cell_alloc frozen_alloc set_alloc

theorem scale_in {l h k : Int} (h1 : sideB l h = true) (k1 : -1024 ≤ k) (k2 : k ≤ 1024) : scale l h k = (min (k * l) (k * h), max (k * l) (k * h), 0) ∧ -33554432 ≤ min (k * l) (k * h) ∧ min (k * l) (k * h) ≤ max (k * l) (k * h) ∧ max (k * l) (k * h) ≤ 33554432 := by
  simp only [sideB, decide_eq_true_eq] at h1
  have b1 := @prod_bd k l k1 k2 (by omega) (by omega)
  have b2 := @prod_bd k h k1 k2 (by omega) (by omega)
  have c1 : chk l h = 0 := chk_yes (by omega) (by omega) (by omega)
  refine ⟨?_, by omega, by omega, by omega⟩
  rw [scale, if_pos c1, if_pos ⟨by omega, by omega⟩, rng_yes (chk_yes (by omega) (by omega) (by omega))]

theorem add_in {a b c d : Int} (h1 : -1000000000 ≤ a) (h2 : a ≤ b) (h3 : b ≤ 1000000000) (h4 : -1000000000 ≤ c) (h5 : c ≤ d) (h6 : d ≤ 1000000000) : add a b c d = (a + c, b + d, 0) := by
  rw [add, if_pos (chk_yes (by omega) (by omega) (by omega)), if_pos (chk_yes (by omega) (by omega) (by omega)), rng_yes (chk_yes (by omega) (by omega) (by omega))]

theorem quo_256 {a b : Int} (h1 : -1000000000 ≤ a) (h2 : a ≤ b) (h3 : b ≤ 1000000000) : quo a b 256 = (a / 256, b / 256, 0) := by
  rw [quo, if_pos (chk_yes (by omega) (by omega) (by omega)), if_pos ⟨by omega, by omega⟩]

theorem turnSide_calls (b o b2 o2 : Nat) (v1 v2 k0 k1 k2 l0 h0 l1 h1 l2 h2 L H : Int) (w : World) (c1 : w.cell? ⟨b, o, none⟩ = some (.int .i64 v1)) (f1 : w.frozen? ⟨b, o, none⟩ = false) (c2 : w.cell? ⟨b2, o2, none⟩ = some (.int .i64 v2)) (f2 : w.frozen? ⟨b2, o2, none⟩ = false)
    (hb : b < w.heap.size) (hb2 : b2 < w.heap.size) (hne : o ≠ o2)
    (hr : all3 ⟨k0, k1, k2⟩ 1024 = true) (hm : mayBx ⟨⟨l0, l1, l2⟩, ⟨h0, h1, h2⟩⟩ = true) (hL : sumLo ⟨k0, k1, k2⟩ ⟨⟨l0, l1, l2⟩, ⟨h0, h1, h2⟩⟩ / 256 = L) (hH : sumHi ⟨k0, k1, k2⟩ ⟨⟨l0, l1, l2⟩, ⟨h0, h1, h2⟩⟩ / 256 = H) :
    Calls Try.prog 30 #[.pointer (some ⟨b, o, none⟩), .pointer (some ⟨b2, o2, none⟩), .agg #[.int .i64 k0, .int .i64 k1, .int .i64 k2], .agg #[.int .i64 l0, .int .i64 h0, .int .i64 l1, .int .i64 h1, .int .i64 l2, .int .i64 h2]] w fun e w' =>
      e = .returned (.tuple #[]) ∧ ∃ x, w' = plus ((w.setCell ⟨b, o, none⟩ (.int .i64 L)).setCell ⟨b2, o2, none⟩ (.int .i64 H)) x := by
  rw [may_sides] at hm
  simp only [Bool.and_eq_true] at hm
  obtain ⟨⟨⟨r1, r2⟩, ⟨r3, r4⟩, r5, r6⟩, ⟨m1, m2⟩, m3⟩ := And.intro (all3_of hr) hm
  obtain ⟨e0, x0, y0, z0⟩ := scale_in m1 r1 r2
  obtain ⟨e1, x1, y1, z1⟩ := scale_in m2 r3 r4
  obtain ⟨e2, x2, y2, z2⟩ := scale_in m3 r5 r6
  refine turnSide_walk b o b2 o2 v1 v2 k0 k1 k2 l0 h0 l1 h1 l2 h2 _ _ _ _ _ _ _ _ _ _ _ _ L H w c1 f1 c2 f2 hb hb2 hne e0 e1 e2
    (add_in (by omega) (by omega) (by omega) (by omega) (by omega) (by omega)) (add_in (by omega) (by omega) (by omega) (by omega) (by omega) (by omega)) (add_in (by omega) (by omega) (by omega) (by omega) (by omega) (by omega)) ?_
  rw [quo_256 (by omega) (by omega) (by omega), ← hL, ← hH]
  simp only [sumLo, sumHi, Int.zero_add]

/-- what Turned tells -/
def turnedR (m : M9) (b : B6) : B6 × Int :=
  if all9 m 1024 = true then if mayBx b = true then if mayBx (turnedBx m b) = true then (turnedBx m b, 0) else (zeroBx, 20) else (zeroBx, 8) else (zeroBx, 2)
def boxV (b : B6) : Value := .agg #[.int .i64 b.lo.x, .int .i64 b.lo.y, .int .i64 b.lo.z, .int .i64 b.hi.x, .int .i64 b.hi.y, .int .i64 b.hi.z]

set_option maxHeartbeats 4000000 in
theorem bturned_walk (a b c d o f g u i p q r s t v L1 L2 L3 H1 H2 H3 n : Int) (w : World) (hm : all9 ⟨⟨a, b, c⟩, ⟨d, o, f⟩, ⟨g, u, i⟩⟩ 1024 = true) (hb : mayBx ⟨⟨p, q, r⟩, ⟨s, t, v⟩⟩ = true)
    (l1 : sumLo ⟨a, b, c⟩ ⟨⟨p, q, r⟩, ⟨s, t, v⟩⟩ / 256 = L1) (l2 : sumLo ⟨d, o, f⟩ ⟨⟨p, q, r⟩, ⟨s, t, v⟩⟩ / 256 = L2) (l3 : sumLo ⟨g, u, i⟩ ⟨⟨p, q, r⟩, ⟨s, t, v⟩⟩ / 256 = L3)
    (h1 : sumHi ⟨a, b, c⟩ ⟨⟨p, q, r⟩, ⟨s, t, v⟩⟩ / 256 = H1) (h2 : sumHi ⟨d, o, f⟩ ⟨⟨p, q, r⟩, ⟨s, t, v⟩⟩ / 256 = H2) (h3 : sumHi ⟨g, u, i⟩ ⟨⟨p, q, r⟩, ⟨s, t, v⟩⟩ / 256 = H3) (hn : chkBx ⟨⟨L1, L2, L3⟩, ⟨H1, H2, H3⟩⟩ = n) :
    Calls Try.prog 12 #[.agg #[.int .i64 a, .int .i64 b, .int .i64 c, .int .i64 d, .int .i64 o, .int .i64 f, .int .i64 g, .int .i64 u, .int .i64 i], .agg #[.int .i64 p, .int .i64 q, .int .i64 r, .int .i64 s, .int .i64 t, .int .i64 v]] w fun e w' => e = .returned (.tuple #[if n = 0 then .agg #[.int .i64 L1, .int .i64 L2, .int .i64 L3, .int .i64 H1, .int .i64 H2, .int .i64 H3] else .agg #[.int .i64 0, .int .i64 0, .int .i64 0, .int .i64 0, .int .i64 0, .int .i64 0], .int .i64 (if n = 0 then 0 else 20)]) ∧ Below w.heap.size w w' := by
  obtain ⟨r1, r2, r3⟩ := all9_of hm
  simp only at r1 r2 r3
  have k1 : chkBx ⟨⟨p, q, r⟩, ⟨s, t, v⟩⟩ = 0 := if_pos hb
  by_cases hz : n = 0
  · subst hz
    rw [if_pos rfl, if_pos rfl]
    go_enter Try.func12, Try.ntmps12
    go_wp2_with (first | (go_at_call 28; refine (plus_post (rowsMay_calls _ _ _ _ _ _ _ _ _ _)).mono ?_; rintro e w' ⟨rfl, nx, rfl⟩) | (go_at_call 15; refine (plus_post (bcheck_calls _ _ _ _ _ _ _)).mono ?_; rintro e w' ⟨rfl, nx, rfl⟩) | (go_at_call 29; refine (plus_post (side_calls _ _ _ _ _ _ _ (by simp [go_sem, ↓IntWalk.iteOmega]; rfl) (by simp [go_sem, ↓IntWalk.iteOmega]; rfl) (by simp [go_sem]; try omega) (by simp [go_sem]; try omega))).mono ?_; rintro e w' ⟨rfl, nx, rfl⟩) | (go_at_call 30; refine (turnSide_calls _ _ _ _ _ _ _ _ _ _ _ _ _ _ _ _ _ _ (by simp [go_sem, ↓IntWalk.iteOmega]; rfl) (by simp [go_sem, ↓IntWalk.iteOmega] <;> (intros; exfalso; omega)) (by simp [go_sem, ↓IntWalk.iteOmega]; rfl) (by simp [go_sem, ↓IntWalk.iteOmega] <;> (intros; exfalso; omega)) (by simp [go_sem]; try omega) (by simp [go_sem]; try omega) (by decide) (by assumption) (by assumption) (by assumption) (by assumption)).mono ?_; rintro e w' ⟨rfl, nx, rfl⟩))
    exact bodyPost_ret (v := .tuple #[.agg #[.int .i64 L1, .int .i64 L2, .int .i64 L3, .int .i64 H1, .int .i64 H2, .int .i64 H3], .int .i64 0]) (by simp [results, Try.results12, go_sem, ↓IntWalk.iteOmega]) rfl ⟨rfl, by with_reducible repeat (first | exact Below.refl _ _ | apply ba | apply bp | apply bd | apply bn)⟩
  · rw [if_neg hz, if_neg hz]
    go_enter Try.func12, Try.ntmps12
    go_wp2_with (first | (go_at_call 28; refine (plus_post (rowsMay_calls _ _ _ _ _ _ _ _ _ _)).mono ?_; rintro e w' ⟨rfl, nx, rfl⟩) | (go_at_call 15; refine (plus_post (bcheck_calls _ _ _ _ _ _ _)).mono ?_; rintro e w' ⟨rfl, nx, rfl⟩) | (go_at_call 29; refine (plus_post (side_calls _ _ _ _ _ _ _ (by simp [go_sem, ↓IntWalk.iteOmega]; rfl) (by simp [go_sem, ↓IntWalk.iteOmega]; rfl) (by simp [go_sem]; try omega) (by simp [go_sem]; try omega))).mono ?_; rintro e w' ⟨rfl, nx, rfl⟩) | (go_at_call 30; refine (turnSide_calls _ _ _ _ _ _ _ _ _ _ _ _ _ _ _ _ _ _ (by simp [go_sem, ↓IntWalk.iteOmega]; rfl) (by simp [go_sem, ↓IntWalk.iteOmega] <;> (intros; exfalso; omega)) (by simp [go_sem, ↓IntWalk.iteOmega]; rfl) (by simp [go_sem, ↓IntWalk.iteOmega] <;> (intros; exfalso; omega)) (by simp [go_sem]; try omega) (by simp [go_sem]; try omega) (by decide) (by assumption) (by assumption) (by assumption) (by assumption)).mono ?_; rintro e w' ⟨rfl, nx, rfl⟩))
    exact bodyPost_ret (v := .tuple #[.agg #[.int .i64 0, .int .i64 0, .int .i64 0, .int .i64 0, .int .i64 0, .int .i64 0], .int .i64 20]) (by simp [results, Try.results12, go_sem, ↓IntWalk.iteOmega]) rfl ⟨rfl, by with_reducible repeat (first | exact Below.refl _ _ | apply ba | apply bp | apply bd | apply bn)⟩

end Go.Proofs.Ytondjoilcpcneaa
