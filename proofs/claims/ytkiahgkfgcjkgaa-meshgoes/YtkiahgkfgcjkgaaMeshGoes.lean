/- MeshGoes is proved: whether a mesh may be, its triangles, its copy, and whether two are the same, are the document's, and the meshes stay: the call returns true for any two meshes. No condition. -/
import Derived.Test.YtkiahgkfgcjkgaaMeshG
import Derived.Test.YtkiahgkfgcjkgaaOpen2
namespace Go.Proofs.Ytkiahgkfgcjkgaa
open Go.RowKit Go.ChangeShapes Go.WideShapes Go.ChangeAt
set_option linter.unusedSimpArgs false
set_option linter.unusedVariables false
attribute [local go_sem] plus_size plus_drew dn_set dn_alloc dn_plus plus_dn cell_plus frozen_plus set_plus cell_alloc frozen_alloc set_alloc

attribute [local go_sem] eqarr_34 nearr_34 larr_34

attribute [local go_sem] eqarr_50 nearr_50 larr_50

attribute [local go_sem] isnil_26

attribute [local go_sem] isnil_29

attribute [local go_sem] isnil_30

attribute [local go_sem] isnil_31

theorem great_any {w : World} {va ua pa : Option Addr} {vn vc un uc pn pc : Nat} {hs : List PH} {m : Ms} (hm : MeshAt w ⟨va, vn, vc, ua, un, uc, pa, pn, pc⟩ hs m) :
    Calls Try.prog 15 #[.agg #[.slice va vn vc, .slice ua un uc, .slice pa pn pc]] w fun e w' => e = .returned (.bool (greatB vn un pn hs)) ∧ Below w.heap.size w w' := great_calls _ _ _ _ _ _ _ _ _ hs m w hm
theorem msList_le (m : Ms) : (msList m).length ≤ 10000 := by
  by_cases he : msErr m = 0
  · rw [msList_good he]
    have := psOk_le (msOk_ps (msErr_good he).2)
    unfold trisN at this
    omega
  · rw [msList_bad he]
    exact Nat.zero_le _

/-- what is left of the copy while it is written over -/
structure Rg (T : World) (bt : Nat) (v2a u2a p2a : Option Addr) (vn un pn v2c u2c p2c : Nat) (p2 : List PH) (w : World) : Prop where
  ex : ∃ y, w = plus T y
  box : w.heap[bt]? = some (.cells #[.slice v2a vn v2c, .slice u2a un u2c, .slice p2a pn p2c] 33)
  v : Sh T 49 3 w v2a vn
  u : Sh T 50 2 w u2a un
  p : Own 28 2 fP T w p2a pn p2c p2
  i : ∀ k, k < pn → Sh T 3 1 w (nth dPH p2 k).ao (nth dPH p2 k).n
theorem Rg.set {T w : World} {bt : Nat} {v2a u2a p2a : Option Addr} {vn un pn v2c u2c p2c : Nat} {p2 : List PH} {g i : Nat} {e : TypeId} {cur : Array Value} {x : Value} (h : Rg T bt v2a u2a p2a vn un pn v2c u2c p2c p2 w) (hg : T.heap.size ≤ g) (hb : w.heap[g]? = some (.cells cur e)) (h1 : e ≠ 33) (h2 : e ≠ 28) :
    Rg T bt v2a u2a p2a vn un pn v2c u2c p2c p2 (w.setCell ⟨g, i, none⟩ x) := by
  refine ⟨ex_set_new h.ex hg, ?_, h.v.set, h.u.set, h.p.set_other hb h2, fun k hk => (h.i k hk).set⟩
  rw [blk_set_ne ?_]
  · exact h.box
  · intro e0
    subst e0
    rw [h.box] at hb
    cases hb
    exact h1 rfl

set_option maxRecDepth 100000 in
set_option maxHeartbeats 8000000 in
theorem meshGoes_walk0 (va ua pa : Option Addr) (vn vc un uc pn pc : Nat) (hs : List PH) (xa ya za : Option Addr) (xn xc yn yc zn zc : Nat) (gs : List PH) (m o : Ms) (w : World) (hm : MeshAt w ⟨va, vn, vc, ua, un, uc, pa, pn, pc⟩ hs m) (hm2 : MeshAt w ⟨xa, xn, xc, ya, yn, yc, za, zn, zc⟩ gs o) : Calls Try.prog 5 #[.agg #[.slice va vn vc, .slice ua un uc, .slice pa pn pc], .agg #[.slice xa xn xc, .slice ya yn yc, .slice za zn zc]] w fun e w' => e = .returned (.bool true) ∧ Below w.heap.size w w' := by
  cases hg1 : greatB vn un pn hs
  rotate_left
  · go_enter Try.func5, Try.ntmps5
    go_wp2_with (go_at_call 15; refine (plus_post (great_any (by first | exact hm.ex (by with_reducible repeat (first | exact ex_refl _ | exact ex_more | apply ex_alloc | apply ex_plus | apply ex_drew | apply ex_drewN)) | exact hm2.ex (by with_reducible repeat (first | exact ex_refl _ | exact ex_more | apply ex_alloc | apply ex_plus | apply ex_drew | apply ex_drewN))))).mono ?_; rintro e w' ⟨rfl, nx, rfl⟩; first | rw [hg1] | rw [hg2])
    go_ret
    exact ⟨rfl, by with_reducible repeat (first | exact Below.refl _ _ | apply ba | apply bp | apply bd | apply bn)⟩
  cases hg2 : greatB xn yn zn gs
  rotate_left
  · go_enter Try.func5, Try.ntmps5
    go_wp2_with (go_at_call 15; refine (plus_post (great_any (by first | exact hm.ex (by with_reducible repeat (first | exact ex_refl _ | exact ex_more | apply ex_alloc | apply ex_plus | apply ex_drew | apply ex_drewN)) | exact hm2.ex (by with_reducible repeat (first | exact ex_refl _ | exact ex_more | apply ex_alloc | apply ex_plus | apply ex_drew | apply ex_drewN))))).mono ?_; rintro e w' ⟨rfl, nx, rfl⟩; first | rw [hg1] | rw [hg2])
    go_ret
    exact ⟨rfl, by with_reducible repeat (first | exact Below.refl _ _ | apply ba | apply bp | apply bd | apply bn)⟩
  obtain ⟨q1, q2, q3, q4⟩ := great_no hg1
  obtain ⟨q5, q6, q7, q8⟩ := great_no hg2
  have sm : SmallAt w va vn vc ua un uc pa pn pc hs m := ⟨hm, q4, q1, q2, q3⟩
  have so : SmallAt w xa xn xc ya yn yc za zn zc gs o := ⟨hm2, q8, q5, q6, q7⟩
  have hlen := msList_le m
  go_enter Try.func5, Try.ntmps5
  go_wp2_with (first | (go_at_call 15; refine (plus_post (great_any (by first | exact hm.ex (by with_reducible repeat (first | exact ex_refl _ | exact ex_more | apply ex_alloc | apply ex_plus | apply ex_drew | apply ex_drewN)) | exact hm2.ex (by with_reducible repeat (first | exact ex_refl _ | exact ex_more | apply ex_alloc | apply ex_plus | apply ex_drew | apply ex_drewN))))).mono ?_; rintro e w' ⟨rfl, nx, rfl⟩; first | rw [hg1] | rw [hg2]) | (go_at_call 16; refine (rtwin_calls _ _ _ _ _ _ _ _ _ hs m _ (hm.ex (by with_reducible repeat (first | exact ex_refl _ | exact ex_more | apply ex_alloc | apply ex_plus | apply ex_drew | apply ex_drewN))) sm.few sm.s1 sm.s2 sm.s3).mono ?_; rintro e w1 ⟨h1, p1, rfl, hw1, ht1, f1, f2, f3⟩; obtain ⟨v1a, v1n, v1c, u1a, u1n, u1c, p1a, p1n, p1c⟩ := h1; obtain rfl : vn = v1n := f1.symm; obtain rfl : un = u1n := f2.symm; obtain rfl : pn = p1n := f3.symm; simp only [fM]; have sown : SmallAt w1 v1a vn v1c u1a un u1c p1a pn p1c p1 m := twin_small sm ht1 rfl rfl rfl; have a0 : w1.cell? ⟨w.heap.size, 0, none⟩ = some (.slice va vn vc) := cell_ex hw1 (by simp [go_sem, ↓IntWalk.iteOmega]); have a1 : w1.cell? ⟨w.heap.size, 1, none⟩ = some (.slice ua un uc) := cell_ex hw1 (by simp [go_sem, ↓IntWalk.iteOmega]); have a2 : w1.cell? ⟨w.heap.size, 2, none⟩ = some (.slice pa pn pc) := cell_ex hw1 (by simp [go_sem, ↓IntWalk.iteOmega]); have b0 : w1.cell? ⟨w.heap.size + 1, 0, none⟩ = some (.slice xa xn xc) := cell_ex hw1 (by simp [go_sem, ↓IntWalk.iteOmega]); have b1 : w1.cell? ⟨w.heap.size + 1, 1, none⟩ = some (.slice ya yn yc) := cell_ex hw1 (by simp [go_sem, ↓IntWalk.iteOmega]); have b2 : w1.cell? ⟨w.heap.size + 1, 2, none⟩ = some (.slice za zn zc) := cell_ex hw1 (by simp [go_sem, ↓IntWalk.iteOmega]); have hz1 := cell_lt b0; clear ht1 f1 f2 f3) | (go_at_call 17; refine (tris_calls _ _ _ _ _ _ _ _ _ p1 m _ (sown.at0.ex (by with_reducible repeat (first | exact ex_refl _ | exact ex_more | apply ex_alloc | apply ex_plus | apply ex_drew | apply ex_drewN)))).mono ?_; rintro e w2 ⟨ao1, m1, cap1, rfl, hw2, hl1⟩; have c0 : w2.cell? ⟨w.heap.size, 0, none⟩ = some (.slice va vn vc) := cell_ex hw2 (by simp [go_sem, ↓IntWalk.iteOmega, a0]); have c1 : w2.cell? ⟨w.heap.size, 1, none⟩ = some (.slice ua un uc) := cell_ex hw2 (by simp [go_sem, ↓IntWalk.iteOmega, a1]); have c2 : w2.cell? ⟨w.heap.size, 2, none⟩ = some (.slice pa pn pc) := cell_ex hw2 (by simp [go_sem, ↓IntWalk.iteOmega, a2]); have d0 : w2.cell? ⟨w.heap.size + 1, 0, none⟩ = some (.slice xa xn xc) := cell_ex hw2 (by simp [go_sem, ↓IntWalk.iteOmega, b0]); have d1 : w2.cell? ⟨w.heap.size + 1, 1, none⟩ = some (.slice ya yn yc) := cell_ex hw2 (by simp [go_sem, ↓IntWalk.iteOmega, b1]); have d2 : w2.cell? ⟨w.heap.size + 1, 2, none⟩ = some (.slice za zn zc) := cell_ex hw2 (by simp [go_sem, ↓IntWalk.iteOmega, b2]); have g0 : w2.cell? ⟨w1.heap.size, 0, none⟩ = some (.slice v1a vn v1c) := cell_ex hw2 (by simp [go_sem, ↓IntWalk.iteOmega]); have g1 : w2.cell? ⟨w1.heap.size, 1, none⟩ = some (.slice u1a un u1c) := cell_ex hw2 (by simp [go_sem, ↓IntWalk.iteOmega]); have g2 : w2.cell? ⟨w1.heap.size, 2, none⟩ = some (.slice p1a pn p1c) := cell_ex hw2 (by simp [go_sem, ↓IntWalk.iteOmega]); have hz2 := cell_lt g0) | (go_at_call 18; refine (rtris_calls _ _ _ _ _ _ _ _ _ hs m _ (hm.ex (by with_reducible repeat (first | exact ex_refl _ | exact ex_more | apply ex_alloc | apply ex_plus | apply ex_drew | apply ex_drewN | (apply ex_on; assumption))))).mono ?_; rintro e w3 ⟨ao2, m2, cap2, rfl, hw3, hl2⟩; have r0 : w3.cell? ⟨w.heap.size, 0, none⟩ = some (.slice va vn vc) := cell_ex hw3 c0; have r1 : w3.cell? ⟨w.heap.size, 1, none⟩ = some (.slice ua un uc) := cell_ex hw3 c1; have r2 : w3.cell? ⟨w.heap.size, 2, none⟩ = some (.slice pa pn pc) := cell_ex hw3 c2; have s0 : w3.cell? ⟨w.heap.size + 1, 0, none⟩ = some (.slice xa xn xc) := cell_ex hw3 d0; have s1 : w3.cell? ⟨w.heap.size + 1, 1, none⟩ = some (.slice ya yn yc) := cell_ex hw3 d1; have s2 : w3.cell? ⟨w.heap.size + 1, 2, none⟩ = some (.slice za zn zc) := cell_ex hw3 d2; have t0 : w3.cell? ⟨w1.heap.size, 0, none⟩ = some (.slice v1a vn v1c) := cell_ex hw3 g0; have t1 : w3.cell? ⟨w1.heap.size, 1, none⟩ = some (.slice u1a un u1c) := cell_ex hw3 g1; have t2 : w3.cell? ⟨w1.heap.size, 2, none⟩ = some (.slice p1a pn p1c) := cell_ex hw3 g2; have hz3 := cell_lt t0) | (go_at_call 19; refine (twin_calls _ _ _ _ _ _ _ _ _ p1 m _ (sown.at0.ex (by with_reducible repeat (first | exact ex_refl _ | exact ex_more | apply ex_alloc | apply ex_plus | apply ex_drew | apply ex_drewN | (apply ex_on; assumption)))) sown.few sown.s1 sown.s2 sown.s3).mono ?_; rintro e w4 ⟨h2, p2, rfl, hw4, ht2, f1, f2, f3⟩; obtain ⟨v2a, v2n, v2c, u2a, u2n, u2c, p2a, p2n, p2c⟩ := h2; obtain rfl : vn = v2n := f1.symm; obtain rfl : un = u2n := f2.symm; obtain rfl : pn = p2n := f3.symm; simp only [fM]; have st : SmallAt w4 v2a vn v2c u2a un u2c p2a pn p2c p2 m := twin_small sm ht2 rfl rfl rfl; have x0 : w4.cell? ⟨w.heap.size, 0, none⟩ = some (.slice va vn vc) := cell_ex hw4 r0; have x1 : w4.cell? ⟨w.heap.size, 1, none⟩ = some (.slice ua un uc) := cell_ex hw4 r1; have x2 : w4.cell? ⟨w.heap.size, 2, none⟩ = some (.slice pa pn pc) := cell_ex hw4 r2; have y0 : w4.cell? ⟨w.heap.size + 1, 0, none⟩ = some (.slice xa xn xc) := cell_ex hw4 s0; have y1 : w4.cell? ⟨w.heap.size + 1, 1, none⟩ = some (.slice ya yn yc) := cell_ex hw4 s1; have y2 : w4.cell? ⟨w.heap.size + 1, 2, none⟩ = some (.slice za zn zc) := cell_ex hw4 s2; have z0 : w4.cell? ⟨w1.heap.size, 0, none⟩ = some (.slice v1a vn v1c) := cell_ex hw4 t0; have z1 : w4.cell? ⟨w1.heap.size, 1, none⟩ = some (.slice u1a un u1c) := cell_ex hw4 t1; have z2 : w4.cell? ⟨w1.heap.size, 2, none⟩ = some (.slice p1a pn p1c) := cell_ex hw4 t2; have hz4 := cell_lt z0; clear f1 f2 f3))
  refine region_plus (by kernel_rfl) (by kernel_rfl) ?_
  (repeat (go_big_quiet_step ((first | (go_at_call 13; exact plus_of (sameTris_self (hl1.ex (by with_reducible repeat (first | exact ex_refl _ | exact ex_more | apply ex_alloc | apply ex_plus | apply ex_drew | apply ex_drewN | (apply ex_on; assumption)))) (hl2.ex (by with_reducible repeat (first | exact ex_refl _ | exact ex_more | apply ex_alloc | apply ex_plus | apply ex_drew | apply ex_drewN | (apply ex_on; assumption)))) hlen)) | (go_at_call 11; exact plus_of (check_small (sown.ex (by with_reducible repeat (first | exact ex_refl _ | exact ex_more | apply ex_alloc | apply ex_plus | apply ex_drew | apply ex_drewN | (apply ex_on; assumption)))))) | (go_at_call 20; exact plus_of (rcheck_small (sm.ex (by with_reducible repeat (first | exact ex_refl _ | exact ex_more | apply ex_alloc | apply ex_plus | apply ex_drew | apply ex_drewN | (apply ex_on; assumption)))))) | (go_at_call 21; first | exact plus_of (same_self (by first | exact sm.ex (by with_reducible repeat (first | exact ex_refl _ | exact ex_more | apply ex_alloc | apply ex_plus | apply ex_drew | apply ex_drewN | (apply ex_on; assumption))) | exact so.ex (by with_reducible repeat (first | exact ex_refl _ | exact ex_more | apply ex_alloc | apply ex_plus | apply ex_drew | apply ex_drewN | (apply ex_on; assumption))) | exact sown.ex (by with_reducible repeat (first | exact ex_refl _ | exact ex_more | apply ex_alloc | apply ex_plus | apply ex_drew | apply ex_drewN | (apply ex_on; assumption))) | exact st.ex (by with_reducible repeat (first | exact ex_refl _ | exact ex_more | apply ex_alloc | apply ex_plus | apply ex_drew | apply ex_drewN | (apply ex_on; assumption)))) (by first | exact sm.ex (by with_reducible repeat (first | exact ex_refl _ | exact ex_more | apply ex_alloc | apply ex_plus | apply ex_drew | apply ex_drewN | (apply ex_on; assumption))) | exact so.ex (by with_reducible repeat (first | exact ex_refl _ | exact ex_more | apply ex_alloc | apply ex_plus | apply ex_drew | apply ex_drewN | (apply ex_on; assumption))) | exact sown.ex (by with_reducible repeat (first | exact ex_refl _ | exact ex_more | apply ex_alloc | apply ex_plus | apply ex_drew | apply ex_drewN | (apply ex_on; assumption))) | exact st.ex (by with_reducible repeat (first | exact ex_refl _ | exact ex_more | apply ex_alloc | apply ex_plus | apply ex_drew | apply ex_drewN | (apply ex_on; assumption))))) | exact plus_of (same_any (by first | exact sm.ex (by with_reducible repeat (first | exact ex_refl _ | exact ex_more | apply ex_alloc | apply ex_plus | apply ex_drew | apply ex_drewN | (apply ex_on; assumption))) | exact so.ex (by with_reducible repeat (first | exact ex_refl _ | exact ex_more | apply ex_alloc | apply ex_plus | apply ex_drew | apply ex_drewN | (apply ex_on; assumption))) | exact sown.ex (by with_reducible repeat (first | exact ex_refl _ | exact ex_more | apply ex_alloc | apply ex_plus | apply ex_drew | apply ex_drewN | (apply ex_on; assumption))) | exact st.ex (by with_reducible repeat (first | exact ex_refl _ | exact ex_more | apply ex_alloc | apply ex_plus | apply ex_drew | apply ex_drewN | (apply ex_on; assumption)))) (by first | exact sm.ex (by with_reducible repeat (first | exact ex_refl _ | exact ex_more | apply ex_alloc | apply ex_plus | apply ex_drew | apply ex_drewN | (apply ex_on; assumption))) | exact so.ex (by with_reducible repeat (first | exact ex_refl _ | exact ex_more | apply ex_alloc | apply ex_plus | apply ex_drew | apply ex_drewN | (apply ex_on; assumption))) | exact sown.ex (by with_reducible repeat (first | exact ex_refl _ | exact ex_more | apply ex_alloc | apply ex_plus | apply ex_drew | apply ex_drewN | (apply ex_on; assumption))) | exact st.ex (by with_reducible repeat (first | exact ex_refl _ | exact ex_more | apply ex_alloc | apply ex_plus | apply ex_drew | apply ex_drewN | (apply ex_on; assumption)))))) | (go_at_call 22; first | exact plus_of (rsame_self (by first | exact sm.ex (by with_reducible repeat (first | exact ex_refl _ | exact ex_more | apply ex_alloc | apply ex_plus | apply ex_drew | apply ex_drewN | (apply ex_on; assumption))) | exact so.ex (by with_reducible repeat (first | exact ex_refl _ | exact ex_more | apply ex_alloc | apply ex_plus | apply ex_drew | apply ex_drewN | (apply ex_on; assumption))) | exact sown.ex (by with_reducible repeat (first | exact ex_refl _ | exact ex_more | apply ex_alloc | apply ex_plus | apply ex_drew | apply ex_drewN | (apply ex_on; assumption))) | exact st.ex (by with_reducible repeat (first | exact ex_refl _ | exact ex_more | apply ex_alloc | apply ex_plus | apply ex_drew | apply ex_drewN | (apply ex_on; assumption)))) (by first | exact sm.ex (by with_reducible repeat (first | exact ex_refl _ | exact ex_more | apply ex_alloc | apply ex_plus | apply ex_drew | apply ex_drewN | (apply ex_on; assumption))) | exact so.ex (by with_reducible repeat (first | exact ex_refl _ | exact ex_more | apply ex_alloc | apply ex_plus | apply ex_drew | apply ex_drewN | (apply ex_on; assumption))) | exact sown.ex (by with_reducible repeat (first | exact ex_refl _ | exact ex_more | apply ex_alloc | apply ex_plus | apply ex_drew | apply ex_drewN | (apply ex_on; assumption))) | exact st.ex (by with_reducible repeat (first | exact ex_refl _ | exact ex_more | apply ex_alloc | apply ex_plus | apply ex_drew | apply ex_drewN | (apply ex_on; assumption))))) | exact plus_of (rsame_any (by first | exact sm.ex (by with_reducible repeat (first | exact ex_refl _ | exact ex_more | apply ex_alloc | apply ex_plus | apply ex_drew | apply ex_drewN | (apply ex_on; assumption))) | exact so.ex (by with_reducible repeat (first | exact ex_refl _ | exact ex_more | apply ex_alloc | apply ex_plus | apply ex_drew | apply ex_drewN | (apply ex_on; assumption))) | exact sown.ex (by with_reducible repeat (first | exact ex_refl _ | exact ex_more | apply ex_alloc | apply ex_plus | apply ex_drew | apply ex_drewN | (apply ex_on; assumption))) | exact st.ex (by with_reducible repeat (first | exact ex_refl _ | exact ex_more | apply ex_alloc | apply ex_plus | apply ex_drew | apply ex_drewN | (apply ex_on; assumption)))) (by first | exact sm.ex (by with_reducible repeat (first | exact ex_refl _ | exact ex_more | apply ex_alloc | apply ex_plus | apply ex_drew | apply ex_drewN | (apply ex_on; assumption))) | exact so.ex (by with_reducible repeat (first | exact ex_refl _ | exact ex_more | apply ex_alloc | apply ex_plus | apply ex_drew | apply ex_drewN | (apply ex_on; assumption))) | exact sown.ex (by with_reducible repeat (first | exact ex_refl _ | exact ex_more | apply ex_alloc | apply ex_plus | apply ex_drew | apply ex_drewN | (apply ex_on; assumption))) | exact st.ex (by with_reducible repeat (first | exact ex_refl _ | exact ex_more | apply ex_alloc | apply ex_plus | apply ex_drew | apply ex_drewN | (apply ex_on; assumption))))))))))
  refine wpQuiet_nil ?_
  rintro _ ⟨x2, rfl⟩
  have hx5 : ∃ y, plus (w4.alloc (.cells #[.slice v2a vn v2c, .slice u2a un u2c, .slice p2a pn p2c] 33)) x2 = plus w3 y := (by with_reducible repeat (first | exact ex_refl _ | exact ex_more | apply ex_alloc | apply ex_plus | apply ex_drew | apply ex_drewN | (apply ex_on; assumption)))
  have hR : Rg w3 w4.heap.size v2a u2a p2a vn un pn v2c u2c p2c p2 (plus (w4.alloc (.cells #[.slice v2a vn v2c, .slice u2a un u2c, .slice p2a pn p2c] 33)) x2) :=
    ⟨hx5, blk_ex (ex_plus (ex_refl _)) (by rw [blk_alloc, if_pos rfl]), (ht2.v.ex (by with_reducible repeat (first | exact ex_refl _ | exact ex_more | apply ex_alloc | apply ex_plus | apply ex_drew | apply ex_drewN))).sh, (ht2.u.ex (by with_reducible repeat (first | exact ex_refl _ | exact ex_more | apply ex_alloc | apply ex_plus | apply ex_drew | apply ex_drewN))).sh, ht2.p.ex (by with_reducible repeat (first | exact ex_refl _ | exact ex_more | apply ex_alloc | apply ex_plus | apply ex_drew | apply ex_drewN)), fun k hk => ((ht2.ix k (by rw [ht2.p.1]; exact hk)).ex (by with_reducible repeat (first | exact ex_refl _ | exact ex_more | apply ex_alloc | apply ex_plus | apply ex_drew | apply ex_drewN))).sh⟩
  have hw34 := size_ex hw4
  have hfew := st.few
  have lp2 := ht2.p.1
  simp only at lp2
  clear hx5 ht2 hl1 hl2
  generalize plus (w4.alloc (.cells #[.slice v2a vn v2c, .slice u2a un u2c, .slice p2a pn p2c] 33)) x2 = w5 at *
  go_wp2
  go_loopw [12] (fun i wr => ∃ k : Nat, k ≤ vn ∧ i = .int .i64 k ∧ Rg w3 w4.heap.size v2a u2a p2a vn un pn v2c u2c p2c p2 wr) (fun i _ => vn - (intOf i).toNat)
  case atStart => exact ⟨0, Nat.zero_le _, rfl, hR⟩
  case round =>
    clear hR
    obtain ⟨k, hk, rfl, hR⟩ := hrel
    have e0 := cell_blk (i := 0) hR.box rfl
    have e1 := cell_blk (i := 1) hR.box rfl
    have e2 := cell_blk (i := 2) hR.box rfl
    by_cases hkl : k < vn
    · have ik : (k : Int) < (vn : Int) := by omega
      obtain ⟨gv, cur, rfl, hgv, hbv, hsz⟩ := hR.v.resolve_left (by omega)
      have c0' := blk_cell (i := k * 3) hbv (by omega)
      have c1' := blk_cell (i := k * 3 + 1) hbv (by omega)
      have c2' := blk_cell (i := k * 3 + 2) hbv (by omega)
      have z0' := frozen_blk (i := k * 3) hbv
      have z1' := frozen_blk (i := k * 3 + 1) hbv
      have z2' := frozen_blk (i := k * 3 + 2) hbv
      go_wp2
      go_roundw
      case rel => exact ⟨k + 1, by omega, by go_num, ((hR.set hgv hbv (by decide) (by decide)).set hgv (blk_set_eq hbv) (by decide) (by decide)).set hgv (blk_set_eq (blk_set_eq hbv)) (by decide) (by decide)⟩
      case measure => simp [intOf]; omega
    · have ik : ¬ (k : Int) < (vn : Int) := by omega
      go_wp2
      go_loopw [13] (fun i wr => ∃ k : Nat, k ≤ un ∧ i = .int .i64 k ∧ Rg w3 w4.heap.size v2a u2a p2a vn un pn v2c u2c p2c p2 wr) (fun i _ => un - (intOf i).toNat)
      case atStart => exact ⟨0, Nat.zero_le _, rfl, hR⟩
      case round =>
        clear hR e0 e1 e2
        obtain ⟨k, hk, rfl, hR⟩ := hrel
        have e0 := cell_blk (i := 0) hR.box rfl
        have e1 := cell_blk (i := 1) hR.box rfl
        have e2 := cell_blk (i := 2) hR.box rfl
        by_cases hkl : k < un
        · have ik : (k : Int) < (un : Int) := by omega
          obtain ⟨gu, cur, rfl, hgu, hbu, hsz⟩ := hR.u.resolve_left (by omega)
          have c0' := blk_cell (i := k * 2) hbu (by omega)
          have z0' := frozen_blk (i := k * 2) hbu
          go_wp2
          go_roundw
          case rel => exact ⟨k + 1, by omega, by go_num, hR.set hgu hbu (by decide) (by decide)⟩
          case measure => simp [intOf]; omega
        · have ik : ¬ (k : Int) < (un : Int) := by omega
          go_wp2
          go_loopw [14] (fun i wr => ∃ k : Nat, k ≤ pn ∧ i = .int .i64 k ∧ Rg w3 w4.heap.size v2a u2a p2a vn un pn v2c u2c p2c p2 wr) (fun i _ => pn - (intOf i).toNat)
          case atStart => exact ⟨0, Nat.zero_le _, rfl, hR⟩
          case round =>
            clear hR e0 e1 e2
            obtain ⟨k, hk, rfl, hR⟩ := hrel
            have e0 := cell_blk (i := 0) hR.box rfl
            have e1 := cell_blk (i := 1) hR.box rfl
            have e2 := cell_blk (i := 2) hR.box rfl
            by_cases hkl : k < pn
            · have ik : (k : Int) < (pn : Int) := by omega
              have hfk := hfew k (by omega)
              obtain ⟨gp, curp, rfl, _, _, _⟩ := hR.p.blk (by omega)
              go_wp2
              go_loopw [15] (fun i wr => ∃ q : Nat, q ≤ (nth dPH p2 k).n ∧ i = .int .i64 q ∧ Rg w3 w4.heap.size v2a u2a (some ⟨gp, 0, none⟩) vn un pn v2c u2c p2c p2 wr) (fun i _ => (nth dPH p2 k).n - (intOf i).toNat)
              case atStart => exact ⟨0, Nat.zero_le _, rfl, hR⟩
              case round =>
                clear hR e0 e1 e2
                obtain ⟨q, hq, rfl, hR⟩ := hrel
                have e0 := cell_blk (i := 0) hR.box rfl
                have e1 := cell_blk (i := 1) hR.box rfl
                have e2 := cell_blk (i := 2) hR.box rfl
                obtain ⟨_, _, eqa, _, hcp⟩ := hR.p.lay.some (by omega)
                cases eqa
                obtain ⟨_, k1⟩ := cellP hR.p.1 hcp (k := k) hkl
                rw [Nat.zero_add] at k1
                have hi := hR.i k hkl
                generalize hhe : nth dPH p2 k = hh at *
                obtain ⟨kk, ak, nk, ck⟩ := hh
                simp only at k1 hq hi hfk
                by_cases hql : q < nk
                · have iq : (q : Int) < (nk : Int) := by omega
                  obtain ⟨gi, curi, rfl, hgi, hbi, hsz⟩ := hi.resolve_left (by omega)
                  have c0' := blk_cell (i := q) hbi (by omega)
                  have z0' := frozen_blk (i := q) hbi
                  go_wp2
                  go_roundw
                  case rel => exact ⟨q + 1, by simpa using (show q + 1 ≤ nk by omega), by go_num, hR.set hgi hbi (by decide) (by decide)⟩
                  case measure => simp [intOf]; omega
                · have iq : ¬ (q : Int) < (nk : Int) := by omega
                  go_wp2
                  go_roundw
                  case rel => exact ⟨k + 1, by omega, by go_num, hR⟩
                  case measure => simp [intOf]; omega
            · have ik : ¬ (k : Int) < (pn : Int) := by omega
              have hx6 := hR.ex
              have m0 := cell_ex hx6 r0
              have m1' := cell_ex hx6 r1
              have m2' := cell_ex hx6 r2
              have n0 := cell_ex hx6 t0
              have n1 := cell_ex hx6 t1
              have n2 := cell_ex hx6 t2
              clear hR
              go_wp2_with (go_at_call 22; refine (plus_post (rsame_self (sown.ex (by with_reducible repeat (first | exact ex_refl _ | exact ex_more | apply ex_alloc | apply ex_plus | apply ex_drew | apply ex_drewN | (apply ex_on; assumption)))) (sm.ex (by with_reducible repeat (first | exact ex_refl _ | exact ex_more | apply ex_alloc | apply ex_plus | apply ex_drew | apply ex_drewN | (apply ex_on; assumption)))))).mono ?_; rintro e w' ⟨rfl, nx, rfl⟩)
              go_ret
              exact ⟨rfl, below_ex (by with_reducible repeat (first | exact ex_refl _ | exact ex_more | apply ex_alloc | apply ex_plus | apply ex_drew | apply ex_drewN | (apply ex_on; assumption)))⟩

theorem meshGoes_walk (h : MH) (hs : List PH) (m : Ms) (h' : MH) (gs : List PH) (o : Ms) (w : World) (hm : MeshAt w h hs m) (hm2 : MeshAt w h' gs o) : Calls Try.prog 5 #[fM h, fM h'] w fun e w' => e = .returned (.bool true) ∧ Below w.heap.size w w' := by
  obtain ⟨va, vn, vc, ua, un, uc, pa, pn, pc⟩ := h
  obtain ⟨xa, xn, xc, ya, yn, yc, za, zn, zc⟩ := h'
  exact meshGoes_walk0 va ua pa vn vc un uc pn pc hs xa ya za xn xc yn yc zn zc gs m o w hm hm2

set_option maxRecDepth 100000 in
theorem meshGoes_lifted (os : Os) (started : os.Started) (H : Type) (enc : TypeId × Value → H) :
    ReturnsInHanded {} Try.checked os 5 .any (Rows.meshGoesSpec.pre6 enc Try.prog Try.f5 Rows.meshGoesRow.domain false) (Rows.meshGoesSpec.post enc Try.prog Try.f5 false true false false) := by
  refine returnsInHanded_of_change (C := Try.checked) own started (by kernel_rfl) Try.func5
    (ChangeSpec.witness6 (enc := enc) (C := Try.checked) false ⟨#[], #[.agg #[.slice none 0 0, .slice none 0 0, .slice none 0 0], .agg #[.slice none 0 0, .slice none 0 0, .slice none 0 0]], []⟩ 8 (by kernel_rfl) (by kernel_rfl) (by kernel_rfl) (by kernel_rfl)) ?_
  intro W base args ds gs before hval0 hW hcnd _
  have hval : ∀ (j : Nat) t v, Try.f5.params[j]? = some t → args[j]? = some v → Value.okWide Try.prog W .any base t v := hval0
  have hW' := hW
  obtain ⟨p, q, hA0, hV, rfl, hfz, hnd⟩ := hW
  have hA : DataW.TrodAll enc Try.prog W 0 (fun _ => true) true Try.f5.params.toList args.toList ds p := hA0
  rw [Try.params5] at hA hval
  obtain ⟨v0, vs0, d0, ds0, p0, q0, hargs, rfl, rfl, h0, r0⟩ := trodAll_cons hA
  obtain ⟨v1, vs1, d1, ds1, p1, q1, rfl, rfl, rfl, h1, r1⟩ := trodAll_cons r0
  obtain ⟨rfl, rfl, rfl⟩ := trodAll_nil r1
  obtain rfl : args = #[v0, v1] := by cases args; simp_all
  obtain ⟨mh0, hs0, m0, rfl, hm0⟩ := open_mesh Try.underlying33 (by kernel_rfl) (by kernel_rfl) Try.underlying29 Try.underlying30 Try.underlying31 (by kernel_rfl) (by kernel_rfl) (by kernel_rfl) (by kernel_rfl) (by kernel_rfl) Try.underlying28 (by kernel_rfl) Try.underlying5 Try.underlying26 (by kernel_rfl) (by kernel_rfl) (hval 0 33 v0 rfl rfl) h0
  obtain ⟨mh1, hs1, m1, rfl, hm1⟩ := open_mesh Try.underlying33 (by kernel_rfl) (by kernel_rfl) Try.underlying29 Try.underlying30 Try.underlying31 (by kernel_rfl) (by kernel_rfl) (by kernel_rfl) (by kernel_rfl) (by kernel_rfl) Try.underlying28 (by kernel_rfl) Try.underlying5 Try.underlying26 (by kernel_rfl) (by kernel_rfl) (hval 1 33 v1 rfl rfl) h1
  refine (meshGoes_walk mh0 hs0 m0 mh1 hs1 m1  W hm0 hm1).mono fun e W' ⟨he, hb⟩ => ?_
  exact ⟨_, he, law_post laidOut Try.underlying4 rfl (by kernel_rfl) (by kernel_rfl) (fun ds h => match ds, h with | [_, _], _ => rfl) hW' hb⟩

theorem meshGoes_holds : Rows.MeshGoesSaid :=
  OpenClaim.holds_of_wide 5 Try.f5 rfl rfl rfl rfl rfl rfl rfl ⟨rfl, rfl, rfl, rfl, rfl⟩ rfl rfl rfl rfl rfl (by kernel_rfl) Try.func5 (by kernel_rfl)
    (of_decide_eq_true (by kernel_rfl)) (by unfold Func.isWrapper; first | (rw [if_pos (by decide +kernel)]; kernel_rfl) | (rw [if_neg (by decide +kernel)]; exact ⟨rfl, rfl⟩))
    (fun os started H enc _ => meshGoes_lifted os started H enc)
#print axioms meshGoes_holds
end Go.Proofs.Ytkiahgkfgcjkgaa
