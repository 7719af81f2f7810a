/- A pack of texts: EdMay, EdOwn2, Made, EdTn, EdTwN, EdTwM, EdTwT. -/
import Derived.Laws.MakeOwn
import Derived.Deep.DeepCutAuto
import Derived.Test.YtcekcihijdipoaaGreatPM13
import Derived.Test.YtcekcihijdipoaaGreatPM11
import Derived.Test.YtcekcihijdipoaaGreatPM15
import Derived.Test.YtcekcihijdipoaaGreatPM4
import Derived.Test.YtcekcihijdipoaaGreatPM2
import Derived.Test.YtcekcihijdipoaaGreatPM14
namespace Go.Proofs.YtcekcihijdipoaaGreat

section


open Go.RowKit Go.ChangeShapes Go.WideShapes Go.ChangeAt

set_option linter.unusedSimpArgs false

set_option linter.unusedVariables false

attribute [local go_sem] plus_size plus_drew dn_set dn_alloc dn_plus plus_dn cell_plus frozen_plus set_plus cell_alloc frozen_alloc set_alloc

theorem no_node {s : Sc} {k : Nat} (hk : k < s.ns.length) (h : nodeOk s k = false) : maySc s = false := by
  cases h2 : maySc s
  · rfl
  · rw [(may_parts h2).2.2.2.1 k hk] at h; cases h

set_option maxRecDepth 100000 in
set_option maxHeartbeats 8000000 in
theorem rmay10_calls (h : SH) (x : SX) (s : Sc) (w : World) (hG : GrAt w h.ga h.gn h.ka h.kn x.gr s.g) (hR : RestAt w h x s) (hS : Small x) :
    Calls Tryz.prog 46 #[vS h] w fun e w' => e = .returned (.bool (maySc s)) ∧ ∃ y, w' = plus w y := by
  have hst := stores_calls h x s
  have hRe : ∀ w', (∃ y, w' = plus w y) → RestAt w' h x s := fun w' hw => hR.ex hw
  obtain ⟨ga, gn, gc, ka, kn, kc, na, nn, nc, ma, mn, mc, ta, tn, tc, r0, r1⟩ := h
  have nl := hR.nl
  have ns := hR.ns
  have ml := hR.ml
  have ms := hR.ms
  have tl := hR.tl
  have ts := hR.ts
  have n3 := hR.n3
  have n1 := hR.n1
  have n2 := hR.n2
  have hr := hR.root
  simp only at nl ml ms tl ts n1 n2 n3 hr hG
  clear hR
  have nlen := nl.len
  have nlen2 := ns.len
  have mlen := ml.len
  have mlen2 := ms.len
  have tlen3 := tl.len
  unfold vS at *
  simp only at *
  have gl := hG.kl
  have g1 := hG.n1
  have gs := hG.sl
  have gsl := gs.len
  have gk := hG.kh
  have gkl := gk.len
  obtain ⟨bg, hbg⟩ : ∃ b, grOk s.g = b := ⟨_, rfl⟩
  obtain ⟨bs, hbs⟩ : ∃ b, storesOk s = b := ⟨_, rfl⟩
  rw [hbs] at hst
  replace hst := Hush9.mk hst
  replace hRe := Hush9.mk hRe
  replace hbg := Hush9.mk hbg
  replace hbs := Hush9.mk hbs
  cases bg
  · go_enter Tryz.func46, Tryz.ntmps46
    go_wp2_with (go_at_call 88; refine (plus_post (gmay_calls _ _ _ _ _ _ x.gr s.g _ (hG.ex (by with_reducible repeat (first | exact ex_refl _ | exact ex_more9 | apply ex_alloc | apply ex_plus | apply ex_drew | apply ex_drewN))))).mono ?_; rintro e w' ⟨rfl, nx, rfl⟩; rw [hbg.it])
    go_ret
    exact ⟨by rw [show maySc s = false by simp [maySc, hbg.it]]; rfl, (by with_reducible repeat (first | exact ex_refl _ | exact ex_more9 | apply ex_alloc | apply ex_plus | apply ex_drew | apply ex_drewN))⟩
  by_cases hnk : nn = kn
  rotate_left
  · have dne : ((nn : Int) == (kn : Int)) = false := by rw [beq_eq_false_iff_ne]; omega
    go_enter Tryz.func46, Tryz.ntmps46
    go_wp2_with (go_at_call 88; refine (plus_post (gmay_calls _ _ _ _ _ _ x.gr s.g _ (hG.ex (by with_reducible repeat (first | exact ex_refl _ | exact ex_more9 | apply ex_alloc | apply ex_plus | apply ex_drew | apply ex_drewN))))).mono ?_; rintro e w' ⟨rfl, nx, rfl⟩; rw [hbg.it])
    go_ret
    exact ⟨by rw [show maySc s = false by simp [maySc, show ¬ s.ns.length = s.g.ks.length by omega]]; rfl, (by with_reducible repeat (first | exact ex_refl _ | exact ex_more9 | apply ex_alloc | apply ex_plus | apply ex_drew | apply ex_drewN))⟩
  subst hnk
  cases bs
  · go_enter Tryz.func46, Tryz.ntmps46
    go_wp2_with (first | (go_at_call 88; refine (plus_post (gmay_calls _ _ _ _ _ _ x.gr s.g _ (hG.ex (by with_reducible repeat (first | exact ex_refl _ | exact ex_more9 | apply ex_alloc | apply ex_plus | apply ex_drew | apply ex_drewN))))).mono ?_; rintro e w' ⟨rfl, nx, rfl⟩; rw [hbg.it]) | (go_at_call 89; refine (hst.it _ (hRe.it _ (by with_reducible repeat (first | exact ex_refl _ | exact ex_more9 | apply ex_alloc | apply ex_plus | apply ex_drew | apply ex_drewN)))).mono ?_; rintro e w' ⟨rfl, nx, rfl⟩))
    go_ret
    exact ⟨by rw [show maySc s = false by simp [maySc, hbs.it]]; rfl, (by with_reducible repeat (first | exact ex_refl _ | exact ex_more9 | apply ex_alloc | apply ex_plus | apply ex_drew | apply ex_drewN))⟩
  have gok := gr_parts hbg.it
  obtain rfl : gn = nn := by omega
  replace gok := Hush9.mk gok
  go_enter Tryz.func46, Tryz.ntmps46
  go_wp2_with (first | (go_at_call 88; refine (plus_post (gmay_calls _ _ _ _ _ _ x.gr s.g _ (hG.ex (by with_reducible repeat (first | exact ex_refl _ | exact ex_more9 | apply ex_alloc | apply ex_plus | apply ex_drew | apply ex_drewN))))).mono ?_; rintro e w' ⟨rfl, nx, rfl⟩; rw [hbg.it]) | (go_at_call 89; refine (hst.it _ (hRe.it _ (by with_reducible repeat (first | exact ex_refl _ | exact ex_more9 | apply ex_alloc | apply ex_plus | apply ex_drew | apply ex_drewN)))).mono ?_; rintro e w' ⟨rfl, nx, rfl⟩))
  go_loopw [3] (fun i wr => ∃ k : Nat, k ≤ gn ∧ i = .int .i64 k ∧ (∀ j, j < k → nodeOk s j = true) ∧ ∃ y, wr = plus (w.alloc (.cells #[.slice ga gn gc, .slice ka gn kc, .slice na gn nc, .slice ma mn mc, .slice ta tn tc, .int .i64 r0, .int .i64 r1] 34)) y) (fun i _ => gn - (intOf i).toNat)
  case atStart => exact ⟨0, Nat.zero_le _, rfl, fun j hj => by omega, (by with_reducible repeat (first | exact ex_refl _ | exact ex_more9 | apply ex_alloc | apply ex_plus | apply ex_drew | apply ex_drewN))⟩
  case round =>
    obtain ⟨k, hk, rfl, hs1, y, rfl⟩ := hrel
    by_cases hkl : k < gn
    · obtain ⟨g, off, rfl, hgl, hcell⟩ := nl.some (by omega)
      obtain ⟨g', off', rfl, hgl', hcell'⟩ := gs.some (by omega)
      obtain ⟨g'', off'', rfl, hgl'', hcell''⟩ := gk.some (by omega)
      have ik : (k : Int) < (gn : Int) := by omega
      have ig : (k : Int) < (gn : Int) := by omega
      have hp := lay_part (d := nh0) nlen fN_c hcell hkl
      have kc := hp 0 _ rfl
      rw [Nat.add_zero] at kc
      have kr := cellR gkl hcell'' hkl
      have kv := (cellS gsl hcell' (k := k) (by omega)).2
      have a1 := ns.one k (by omega)
      have s1 := hS.n k (by omega)
      have hkind : (nth nd0 s.ns k).f.kind = (nth nh0 x.nh k).f.kind := by rw [a1.f]
      have hrl : (nth [] s.g.ks k).length = (nth dRH x.gr k).n := (hG.row k (by omega)).len
      obtain ⟨kd, hkd⟩ : ∃ kd, (nth nh0 x.nh k).f.kind = kd := ⟨_, rfl⟩
      obtain ⟨lv, hlv⟩ : ∃ b, (nth dSl s.g.sl k).live = b := ⟨_, rfl⟩
      obtain ⟨rn, hrn⟩ : ∃ b, (nth dRH x.gr k).n = b := ⟨_, rfl⟩
      obtain ⟨bm, hbm⟩ : ∃ b, mayNd mn tn (nth nd0 s.ns k) = b := ⟨_, rfl⟩
      obtain ⟨bz, hbz⟩ : ∃ b, sameNd (nth nd0 s.ns k) nd0 = b := ⟨_, rfl⟩
      have hno : nodeOk s k = !((lv && !bm) || ((!lv && !bz) || (decide (kd = 5) && decide (0 < rn)))) := by
        unfold nodeOk leafKids
        rw [show s.ms.length = mn by omega, show s.ts.length = tn by rw [← ts.len]; exact tl.len, hkind, hkd, hrl, hrn, hlv, hbm, hbz]
      rw [hkd] at kc
      rw [hrn] at kr
      rw [hlv] at kv
      have hP := Hush9.mk (And.intro hp (And.intro hcell (And.intro hcell' hcell'')))
      replace hno := Hush9.mk hno
      replace hbm := Hush9.mk hbm
      replace hbz := Hush9.mk hbz
      replace a1 := Hush9.mk a1
      clear hp hcell hcell' hcell'' hkind hrl hkd hrn hlv
      have fin : ∀ b, nodeOk s k = b → Hush9 (nodeOk s k = b) := fun b h => Hush9.mk h
      cases lv
      · cases bz
        · have hno2 : nodeOk s k = false := by rw [hno.it]; simp []
          replace hno2 := Hush9.mk hno2
          go_wp2
          refine region_plus (by kernel_rfl) (by kernel_rfl) ?_
          (repeat (first | go_big_quiet_skip | (refine wpQuiet_load_guarded 56 _ rfl g (off + k * 33) rfl (fN (nth nh0 x.nh k)) _ (fun w' hw j v hj => cell_ex (ex_trans (by with_reducible repeat (first | exact ex_refl _ | exact ex_more9 | apply ex_alloc | apply ex_plus | apply ex_drew | apply ex_drewN)) hw) (hP.it.1 j v hj)) Tryz.underlying56 rfl (by kernel_rfl) (by kernel_rfl) ?_; simp only [Act.put, List.setIfInBounds_toArray, List.set_cons_succ, List.set_cons_zero]) | go_big_quiet_step (first | (go_at_call 51; exact q9_of (mayNd_at (h := nth nh0 x.nh k) (a1.it.ex (by with_reducible repeat (first | exact ex_refl _ | exact ex_more9 | apply ex_alloc | apply ex_plus | apply ex_drew | apply ex_drewN))) hbm.it)) | (go_at_call 90; exact q9_of (zero_at (h := nth nh0 x.nh k) (a1.it.ex (by with_reducible repeat (first | exact ex_refl _ | exact ex_more9 | apply ex_alloc | apply ex_plus | apply ex_drew | apply ex_drewN))) s1 hbz.it)))))
          refine wpQuiet_nil ?_
          rintro _ ⟨x2, rfl⟩
          go_wp2
          go_ret
          exact ⟨by rw [no_node (k := k) (by omega) hno2.it]; rfl, (by with_reducible repeat (first | exact ex_refl _ | exact ex_more9 | apply ex_alloc | apply ex_plus | apply ex_drew | apply ex_drewN))⟩
        · by_cases h5 : kd = 5
          · subst h5
            by_cases h0 : 0 < rn
            · have i0 : (0 : Int) < (rn : Int) := by omega
              have e0 := decide_eq_true i0
              have hno2 : nodeOk s k = false := by rw [hno.it]; simp [h0]
              replace hno2 := Hush9.mk hno2
              go_wp2
              refine region_plus (by kernel_rfl) (by kernel_rfl) ?_
              (repeat (first | go_big_quiet_skip | (refine wpQuiet_load_guarded 56 _ rfl g (off + k * 33) rfl (fN (nth nh0 x.nh k)) _ (fun w' hw j v hj => cell_ex (ex_trans (by with_reducible repeat (first | exact ex_refl _ | exact ex_more9 | apply ex_alloc | apply ex_plus | apply ex_drew | apply ex_drewN)) hw) (hP.it.1 j v hj)) Tryz.underlying56 rfl (by kernel_rfl) (by kernel_rfl) ?_; simp only [Act.put, List.setIfInBounds_toArray, List.set_cons_succ, List.set_cons_zero]) | go_big_quiet_step (first | (go_at_call 51; exact q9_of (mayNd_at (h := nth nh0 x.nh k) (a1.it.ex (by with_reducible repeat (first | exact ex_refl _ | exact ex_more9 | apply ex_alloc | apply ex_plus | apply ex_drew | apply ex_drewN))) hbm.it)) | (go_at_call 90; exact q9_of (zero_at (h := nth nh0 x.nh k) (a1.it.ex (by with_reducible repeat (first | exact ex_refl _ | exact ex_more9 | apply ex_alloc | apply ex_plus | apply ex_drew | apply ex_drewN))) s1 hbz.it)))))
              refine wpQuiet_nil ?_
              rintro _ ⟨x2, rfl⟩
              go_wp2
              go_ret
              exact ⟨by rw [no_node (k := k) (by omega) hno2.it]; rfl, (by with_reducible repeat (first | exact ex_refl _ | exact ex_more9 | apply ex_alloc | apply ex_plus | apply ex_drew | apply ex_drewN))⟩
            · have i0 : ¬ (0 : Int) < (rn : Int) := by omega
              have e0 := decide_eq_false i0
              have hno2 : nodeOk s k = true := by rw [hno.it]; simp [h0]
              replace hno2 := Hush9.mk hno2
              go_wp2
              refine region_plus (by kernel_rfl) (by kernel_rfl) ?_
              (repeat (first | go_big_quiet_skip | (refine wpQuiet_load_guarded 56 _ rfl g (off + k * 33) rfl (fN (nth nh0 x.nh k)) _ (fun w' hw j v hj => cell_ex (ex_trans (by with_reducible repeat (first | exact ex_refl _ | exact ex_more9 | apply ex_alloc | apply ex_plus | apply ex_drew | apply ex_drewN)) hw) (hP.it.1 j v hj)) Tryz.underlying56 rfl (by kernel_rfl) (by kernel_rfl) ?_; simp only [Act.put, List.setIfInBounds_toArray, List.set_cons_succ, List.set_cons_zero]) | go_big_quiet_step (first | (go_at_call 51; exact q9_of (mayNd_at (h := nth nh0 x.nh k) (a1.it.ex (by with_reducible repeat (first | exact ex_refl _ | exact ex_more9 | apply ex_alloc | apply ex_plus | apply ex_drew | apply ex_drewN))) hbm.it)) | (go_at_call 90; exact q9_of (zero_at (h := nth nh0 x.nh k) (a1.it.ex (by with_reducible repeat (first | exact ex_refl _ | exact ex_more9 | apply ex_alloc | apply ex_plus | apply ex_drew | apply ex_drewN))) s1 hbz.it)))))
              refine wpQuiet_nil ?_
              rintro _ ⟨x2, rfl⟩
              go_wp2
              go_roundw
              case rel => exact ⟨k + 1, by omega, by go_num, upto_succ9 hs1 hno2.it, (by with_reducible repeat (first | exact ex_refl _ | exact ex_more9 | apply ex_alloc | apply ex_plus | apply ex_drew | apply ex_drewN))⟩
              case measure => simp [intOf]; omega
          · have dk : (kd == 5) = false := by rw [beq_eq_false_iff_ne]; exact h5
            have hno2 : nodeOk s k = true := by rw [hno.it]; simp [h5]
            replace hno2 := Hush9.mk hno2
            go_wp2
            refine region_plus (by kernel_rfl) (by kernel_rfl) ?_
            (repeat (first | go_big_quiet_skip | (refine wpQuiet_load_guarded 56 _ rfl g (off + k * 33) rfl (fN (nth nh0 x.nh k)) _ (fun w' hw j v hj => cell_ex (ex_trans (by with_reducible repeat (first | exact ex_refl _ | exact ex_more9 | apply ex_alloc | apply ex_plus | apply ex_drew | apply ex_drewN)) hw) (hP.it.1 j v hj)) Tryz.underlying56 rfl (by kernel_rfl) (by kernel_rfl) ?_; simp only [Act.put, List.setIfInBounds_toArray, List.set_cons_succ, List.set_cons_zero]) | go_big_quiet_step (first | (go_at_call 51; exact q9_of (mayNd_at (h := nth nh0 x.nh k) (a1.it.ex (by with_reducible repeat (first | exact ex_refl _ | exact ex_more9 | apply ex_alloc | apply ex_plus | apply ex_drew | apply ex_drewN))) hbm.it)) | (go_at_call 90; exact q9_of (zero_at (h := nth nh0 x.nh k) (a1.it.ex (by with_reducible repeat (first | exact ex_refl _ | exact ex_more9 | apply ex_alloc | apply ex_plus | apply ex_drew | apply ex_drewN))) s1 hbz.it)))))
            refine wpQuiet_nil ?_
            rintro _ ⟨x2, rfl⟩
            go_wp2
            go_roundw
            case rel => exact ⟨k + 1, by omega, by go_num, upto_succ9 hs1 hno2.it, (by with_reducible repeat (first | exact ex_refl _ | exact ex_more9 | apply ex_alloc | apply ex_plus | apply ex_drew | apply ex_drewN))⟩
            case measure => simp [intOf]; omega
      · cases bm
        · have hno2 : nodeOk s k = false := by rw [hno.it]; simp []
          replace hno2 := Hush9.mk hno2
          go_wp2
          refine region_plus (by kernel_rfl) (by kernel_rfl) ?_
          (repeat (first | go_big_quiet_skip | (refine wpQuiet_load_guarded 56 _ rfl g (off + k * 33) rfl (fN (nth nh0 x.nh k)) _ (fun w' hw j v hj => cell_ex (ex_trans (by with_reducible repeat (first | exact ex_refl _ | exact ex_more9 | apply ex_alloc | apply ex_plus | apply ex_drew | apply ex_drewN)) hw) (hP.it.1 j v hj)) Tryz.underlying56 rfl (by kernel_rfl) (by kernel_rfl) ?_; simp only [Act.put, List.setIfInBounds_toArray, List.set_cons_succ, List.set_cons_zero]) | go_big_quiet_step (first | (go_at_call 51; exact q9_of (mayNd_at (h := nth nh0 x.nh k) (a1.it.ex (by with_reducible repeat (first | exact ex_refl _ | exact ex_more9 | apply ex_alloc | apply ex_plus | apply ex_drew | apply ex_drewN))) hbm.it)) | (go_at_call 90; exact q9_of (zero_at (h := nth nh0 x.nh k) (a1.it.ex (by with_reducible repeat (first | exact ex_refl _ | exact ex_more9 | apply ex_alloc | apply ex_plus | apply ex_drew | apply ex_drewN))) s1 hbz.it)))))
          refine wpQuiet_nil ?_
          rintro _ ⟨x2, rfl⟩
          go_wp2
          go_ret
          exact ⟨by rw [no_node (k := k) (by omega) hno2.it]; rfl, (by with_reducible repeat (first | exact ex_refl _ | exact ex_more9 | apply ex_alloc | apply ex_plus | apply ex_drew | apply ex_drewN))⟩
        · by_cases h5 : kd = 5
          · subst h5
            by_cases h0 : 0 < rn
            · have i0 : (0 : Int) < (rn : Int) := by omega
              have e0 := decide_eq_true i0
              have hno2 : nodeOk s k = false := by rw [hno.it]; simp [h0]
              replace hno2 := Hush9.mk hno2
              go_wp2
              refine region_plus (by kernel_rfl) (by kernel_rfl) ?_
              (repeat (first | go_big_quiet_skip | (refine wpQuiet_load_guarded 56 _ rfl g (off + k * 33) rfl (fN (nth nh0 x.nh k)) _ (fun w' hw j v hj => cell_ex (ex_trans (by with_reducible repeat (first | exact ex_refl _ | exact ex_more9 | apply ex_alloc | apply ex_plus | apply ex_drew | apply ex_drewN)) hw) (hP.it.1 j v hj)) Tryz.underlying56 rfl (by kernel_rfl) (by kernel_rfl) ?_; simp only [Act.put, List.setIfInBounds_toArray, List.set_cons_succ, List.set_cons_zero]) | go_big_quiet_step (first | (go_at_call 51; exact q9_of (mayNd_at (h := nth nh0 x.nh k) (a1.it.ex (by with_reducible repeat (first | exact ex_refl _ | exact ex_more9 | apply ex_alloc | apply ex_plus | apply ex_drew | apply ex_drewN))) hbm.it)) | (go_at_call 90; exact q9_of (zero_at (h := nth nh0 x.nh k) (a1.it.ex (by with_reducible repeat (first | exact ex_refl _ | exact ex_more9 | apply ex_alloc | apply ex_plus | apply ex_drew | apply ex_drewN))) s1 hbz.it)))))
              refine wpQuiet_nil ?_
              rintro _ ⟨x2, rfl⟩
              go_wp2
              go_ret
              exact ⟨by rw [no_node (k := k) (by omega) hno2.it]; rfl, (by with_reducible repeat (first | exact ex_refl _ | exact ex_more9 | apply ex_alloc | apply ex_plus | apply ex_drew | apply ex_drewN))⟩
            · have i0 : ¬ (0 : Int) < (rn : Int) := by omega
              have e0 := decide_eq_false i0
              have hno2 : nodeOk s k = true := by rw [hno.it]; simp [h0]
              replace hno2 := Hush9.mk hno2
              go_wp2
              refine region_plus (by kernel_rfl) (by kernel_rfl) ?_
              (repeat (first | go_big_quiet_skip | (refine wpQuiet_load_guarded 56 _ rfl g (off + k * 33) rfl (fN (nth nh0 x.nh k)) _ (fun w' hw j v hj => cell_ex (ex_trans (by with_reducible repeat (first | exact ex_refl _ | exact ex_more9 | apply ex_alloc | apply ex_plus | apply ex_drew | apply ex_drewN)) hw) (hP.it.1 j v hj)) Tryz.underlying56 rfl (by kernel_rfl) (by kernel_rfl) ?_; simp only [Act.put, List.setIfInBounds_toArray, List.set_cons_succ, List.set_cons_zero]) | go_big_quiet_step (first | (go_at_call 51; exact q9_of (mayNd_at (h := nth nh0 x.nh k) (a1.it.ex (by with_reducible repeat (first | exact ex_refl _ | exact ex_more9 | apply ex_alloc | apply ex_plus | apply ex_drew | apply ex_drewN))) hbm.it)) | (go_at_call 90; exact q9_of (zero_at (h := nth nh0 x.nh k) (a1.it.ex (by with_reducible repeat (first | exact ex_refl _ | exact ex_more9 | apply ex_alloc | apply ex_plus | apply ex_drew | apply ex_drewN))) s1 hbz.it)))))
              refine wpQuiet_nil ?_
              rintro _ ⟨x2, rfl⟩
              go_wp2
              go_roundw
              case rel => exact ⟨k + 1, by omega, by go_num, upto_succ9 hs1 hno2.it, (by with_reducible repeat (first | exact ex_refl _ | exact ex_more9 | apply ex_alloc | apply ex_plus | apply ex_drew | apply ex_drewN))⟩
              case measure => simp [intOf]; omega
          · have dk : (kd == 5) = false := by rw [beq_eq_false_iff_ne]; exact h5
            have hno2 : nodeOk s k = true := by rw [hno.it]; simp [h5]
            replace hno2 := Hush9.mk hno2
            go_wp2
            refine region_plus (by kernel_rfl) (by kernel_rfl) ?_
            (repeat (first | go_big_quiet_skip | (refine wpQuiet_load_guarded 56 _ rfl g (off + k * 33) rfl (fN (nth nh0 x.nh k)) _ (fun w' hw j v hj => cell_ex (ex_trans (by with_reducible repeat (first | exact ex_refl _ | exact ex_more9 | apply ex_alloc | apply ex_plus | apply ex_drew | apply ex_drewN)) hw) (hP.it.1 j v hj)) Tryz.underlying56 rfl (by kernel_rfl) (by kernel_rfl) ?_; simp only [Act.put, List.setIfInBounds_toArray, List.set_cons_succ, List.set_cons_zero]) | go_big_quiet_step (first | (go_at_call 51; exact q9_of (mayNd_at (h := nth nh0 x.nh k) (a1.it.ex (by with_reducible repeat (first | exact ex_refl _ | exact ex_more9 | apply ex_alloc | apply ex_plus | apply ex_drew | apply ex_drewN))) hbm.it)) | (go_at_call 90; exact q9_of (zero_at (h := nth nh0 x.nh k) (a1.it.ex (by with_reducible repeat (first | exact ex_refl _ | exact ex_more9 | apply ex_alloc | apply ex_plus | apply ex_drew | apply ex_drewN))) s1 hbz.it)))))
            refine wpQuiet_nil ?_
            rintro _ ⟨x2, rfl⟩
            go_wp2
            go_roundw
            case rel => exact ⟨k + 1, by omega, by go_num, upto_succ9 hs1 hno2.it, (by with_reducible repeat (first | exact ex_refl _ | exact ex_more9 | apply ex_alloc | apply ex_plus | apply ex_drew | apply ex_drewN))⟩
            case measure => simp [intOf]; omega
    · have ik : ¬ (k : Int) < (gn : Int) := by omega
      obtain rfl : gn = k := by omega
      have hall : nodesOk s = true := by
        simp only [nodesOk, List.all_eq_true, List.mem_range]
        exact fun j hj => hs1 j (by omega)
      replace hall := Hush9.mk hall
      obtain ⟨br, hbr⟩ : ∃ b, eqh r0 r1 0 0 = b := ⟨_, rfl⟩
      have qH := eqH_is hbr
      have hroot : rootOk s s.root = (br || heldIn s.g.sl r0 r1) := by
        rw [rootOk, hr, ← hbr]
        by_cases e0 : r0 = 0 <;> by_cases e1 : r1 = 0 <;> simp [eqh, e0, e1]
      have hfin : maySc s = rootOk s s.root := by
        simp only [maySc, hbg.it, hbs.it, hall.it]
        simp [show s.ns.length = s.g.ks.length by omega]
      replace hroot := Hush9.mk hroot
      replace hfin := Hush9.mk hfin
      clear hs1 hbr hr
      obtain ⟨bh, hbh⟩ : ∃ b, heldIn s.g.sl r0 r1 = b := ⟨_, rfl⟩
      replace hbh := Hush9.mk hbh
      cases br
      · go_wp2_with (go_at_call 91; refine (held10_is hbh.it (gs.ex (by with_reducible repeat (first | exact ex_refl _ | exact ex_more9 | apply ex_alloc | apply ex_plus | apply ex_drew | apply ex_drewN))) (by omega)).mono ?_; rintro e w' ⟨rfl, nx, rfl⟩)
        go_ret
        exact ⟨by rw [hfin.it, hroot.it, hbh.it]; simp, (by with_reducible repeat (first | exact ex_refl _ | exact ex_more9 | apply ex_alloc | apply ex_plus | apply ex_drew | apply ex_drewN))⟩
      · go_wp2_with (go_at_call 91; refine (held10_is hbh.it (gs.ex (by with_reducible repeat (first | exact ex_refl _ | exact ex_more9 | apply ex_alloc | apply ex_plus | apply ex_drew | apply ex_drewN))) (by omega)).mono ?_; rintro e w' ⟨rfl, nx, rfl⟩)
        go_ret
        exact ⟨by rw [hfin.it, hroot.it]; rfl, (by with_reducible repeat (first | exact ex_refl _ | exact ex_more9 | apply ex_alloc | apply ex_plus | apply ex_drew | apply ex_drewN))⟩

set_option maxHeartbeats 4000000 in
theorem rcheck10_calls (h : SH) (x : SX) (s : Sc) (w : World) (hG : GrAt w h.ga h.gn h.ka h.kn x.gr s.g) (hR : RestAt w h x s) (hS : Small x) :
    Calls Tryz.prog 16 #[vS h] w fun e w' => e = .returned (.int .i64 (scErr s)) ∧ ∃ y, w' = plus w y := by
  have hm := rmay10_calls h x s
  obtain ⟨ga, gn, gc, ka, kn, kc, na, nn, nc, ma, mn, mc, ta, tn, tc, r0, r1⟩ := h
  unfold vS at *
  unfold scErr
  simp only at *
  cases hb : maySc s
  · rw [hb] at hm
    go_enter Tryz.func16, Tryz.ntmps16
    go_wp2_with (go_at_call 46; refine (hm _ (hG.ex (by with_reducible repeat (first | exact ex_refl _ | exact ex_more9 | apply ex_alloc | apply ex_plus | apply ex_drew | apply ex_drewN))) (hR.ex (by with_reducible repeat (first | exact ex_refl _ | exact ex_more9 | apply ex_alloc | apply ex_plus | apply ex_drew | apply ex_drewN))) hS).mono ?_; rintro e w' ⟨rfl, nx, rfl⟩)
    go_ret
    exact ⟨rfl, (by with_reducible repeat (first | exact ex_refl _ | exact ex_more9 | apply ex_alloc | apply ex_plus | apply ex_drew | apply ex_drewN))⟩
  · rw [hb] at hm
    go_enter Tryz.func16, Tryz.ntmps16
    go_wp2_with (go_at_call 46; refine (hm _ (hG.ex (by with_reducible repeat (first | exact ex_refl _ | exact ex_more9 | apply ex_alloc | apply ex_plus | apply ex_drew | apply ex_drewN))) (hR.ex (by with_reducible repeat (first | exact ex_refl _ | exact ex_more9 | apply ex_alloc | apply ex_plus | apply ex_drew | apply ex_drewN))) hS).mono ?_; rintro e w' ⟨rfl, nx, rfl⟩)
    go_ret
    exact ⟨rfl, (by with_reducible repeat (first | exact ex_refl _ | exact ex_more9 | apply ex_alloc | apply ex_plus | apply ex_drew | apply ex_drewN))⟩

end

section


open Go.RowKit

/-- the types of a scene's lists' elements -/
def scTypes : List TypeId := [86, 88, 32, 56, 3, 61, 43, 137, 131, 64, 50]

section

variable {T w : World} {g : Nat} {cur cs : Array Value} {e' : TypeId}

theorem GrOwn.row_out {ao ko : Option Addr} {n cap kn kcap : Nat} {hs : List RH} {gr : Gr} (h : GrOwn T w ao n cap ko kn kcap hs gr) (hg : g < T.heap.size) : GrOwn T (w.setRow g cs) ao n cap ko kn kcap hs gr :=
  ⟨h.sl.row_out hg, h.kh.row_out hg, h.len, fun k hk => (h.row k hk).row_out hg⟩

theorem GrOwn.row_other {ao ko : Option Addr} {n cap kn kcap : Nat} {hs : List RH} {gr : Gr} (h : GrOwn T w ao n cap ko kn kcap hs gr) (hb : w.heap[g]? = some (.cells cur e')) (h1 : e' ≠ 86) (h2 : e' ≠ 88) (h3 : e' ≠ 32) : GrOwn T (w.setRow g cs) ao n cap ko kn kcap hs gr :=
  ⟨h.sl.row_other hb h1, h.kh.row_other hb h2, h.len, fun k hk => (h.row k hk).row_other hb h3⟩

theorem NodeOwn.row_out {h : NH} {n : Nd} (a : NodeOwn T w h n) (hg : g < T.heap.size) : NodeOwn T (w.setRow g cs) h n := ⟨a.f, a.b, a.far.row_out hg⟩

theorem MeshOwn.row_out {h : MH} {hs : List PH} {m : Ms} (a : MeshOwn T w h hs m) (hg : g < T.heap.size) : MeshOwn T (w.setRow g cs) h hs m :=
  ⟨⟨a.t.v.row_out hg, a.t.u.row_out hg, a.t.p.row_out hg, a.t.len, a.t.kind, fun k hk => (a.t.ix k hk).row_out hg⟩, a.b⟩

theorem TexOwn.row_out {h : TH} {t : Tp} (a : TexOwn T w h t) (hg : g < T.heap.size) : TexOwn T (w.setRow g cs) h t := ⟨a.we, a.he, a.tx.row_out hg, a.ok⟩

variable {h : SH} {x : SX} {s : Sc}

theorem ScOwn.row_out (a : ScOwn T w h x s) (hg : g < T.heap.size) : ScOwn T (w.setRow g cs) h x s :=
  ⟨a.g.row_out hg, a.nl.row_out hg, a.nlen, fun k hk => (a.ns k hk).row_out hg, a.ml.row_out hg, a.mlen, fun k hk => (a.ms k hk).row_out hg, a.tl.row_out hg, a.tlen, fun k hk => (a.ts k hk).row_out hg, a.root, a.pl⟩

theorem ScOwn.row_other (a : ScOwn T w h x s) (hb : w.heap[g]? = some (.cells cur e')) (he : e' ∉ scTypes) : ScOwn T (w.setRow g cs) h x s := by
  simp only [scTypes, List.mem_cons, List.not_mem_nil, or_false, not_or] at he
  obtain ⟨e1, e2, e3, e4, e5, e6, e7, e8, e9, e10, e11⟩ := he
  exact ⟨a.g.row_other hb e1 e2 e3, a.nl.row_other hb e4, a.nlen, fun k hk => (a.ns k hk).row_other hb e5, a.ml.row_other hb e6, a.mlen, fun k hk => (a.ms k hk).row_other hb e7 e8 e9 e5, a.tl.row_other hb e10, a.tlen, fun k hk => (a.ts k hk).row_other hb e11, a.root, a.pl⟩

theorem setCell_row (w : World) {i : Nat} {u : Value} (hb : w.heap[g]? = some (.cells cur e')) : w.setCell ⟨g, i, none⟩ u = w.setRow g (cur.setIfInBounds i u) := setCell_eq_setRow w g i cur e' (0, 0) u hb

theorem ScOwn.set_other (a : ScOwn T w h x s) {i : Nat} {u : Value} (hb : w.heap[g]? = some (.cells cur e')) (he : e' ∉ scTypes) : ScOwn T (w.setCell ⟨g, i, none⟩ u) h x s := by
  rw [setCell_row w hb]
  exact a.row_other hb he

end

def scCells (h : SH) : List Value := [.slice h.ga h.gn h.gc, .slice h.ka h.kn h.kc, .slice h.na h.nn h.nc, .slice h.ma h.mn h.mc, .slice h.ta h.tn h.tc, .int .i64 h.r0, .int .i64 h.r1]

theorem scCells_1 (h : SH) : ∀ u ∈ scCells h, u.oneCell' = true := by
  intro u hu
  simp only [scCells, List.mem_cons, List.not_mem_nil, or_false] at hu
  rcases hu with rfl | rfl | rfl | rfl | rfl | rfl | rfl <;> rfl

def RetSc (w : World) (s : Sc) (e : Ending) (w' : World) : Prop := ∃ h' x', e = .returned (vS h') ∧ (∃ y, w' = plus w y) ∧ ScOwn w w' h' x' s

end

section


open Go.RowKit

theorem made_rep {α : Type} {f : α → List Value} {d : α} {c : Nat} (hc : ∀ x, (f x).length = c) (h0 : 0 < c) (n : Nat) : madeCells (f d).toArray (n * c) = ((List.replicate n d).flatMap f).toArray := by
  apply Array.ext'
  rw [List.toList_toArray]
  apply List.ext_getElem?
  intro k
  by_cases hk : k < n * c
  · have hq : k / c < n := (Nat.div_lt_iff_lt_mul h0).2 hk
    have hr : k % c < c := Nat.mod_lt _ h0
    have h1 := flat_at hc (List.replicate n d) (k / c) (by simpa using hq) (k % c) hr
    rw [show k / c * c + k % c = k by rw [Nat.mul_comm]; exact Nat.div_add_mod k c] at h1
    rw [h1]
    have hd := hc d
    simp only [madeCells, Array.toList_map, Array.toList_range, List.getElem?_map, List.getElem_replicate, List.size_toArray, hd]
    rw [List.getElem?_range hk]
    simp only [Option.map_some]
    rw [getElem!_pos _ _ (by simp [hd]; exact hr), List.getElem?_eq_getElem (by omega)]
    simp
  · rw [List.getElem?_eq_none (by rw [Array.length_toList, size_madeCells]; omega), List.getElem?_eq_none (by rw [flat_length hc]; simp; omega)]

theorem run_make_zero {P : Program} {α : Type} {f : α → List Value} {d : α} {t e : TypeId} {c b : Nat} {z : Value} (hi : (P.info? e).map (fun i => (i.zero, i.size, i.bytes)) = some (some z, c, b)) (hz : z.cells = (f d).toArray) (hu : P.underlying t = some (.slice e)) (hc : ∀ x, (f x).length = c) (h0 : 0 < c) (hb : b ≤ 100000) (n : Nat) (hn : n ≤ 100000) (w : World) :
    (Instr.makeSlice t (.int .i64 n) (.int .i64 n)).run P w = .ok (.slice (some ⟨w.heap.size, 0, none⟩) n n) (w.alloc (.cells ((List.replicate n d).flatMap f).toArray e)) := by
  cases hq : P.info? e with
  | none => simp [hq] at hi
  | some i =>
    simp only [hq, Option.map_some, Option.some.injEq, Prod.mk.injEq] at hi
    obtain ⟨h1, h2, h3⟩ := hi
    have hb1 : i.bytes * n ≤ 281474976710656 := by rw [h3]; exact Nat.le_trans (Nat.mul_le_mul hb hn) (by decide)
    have h := run_make w t e i z hu hq h1 .i64 .i64 n n (by omega) (Int.le_refl _) (by rw [← Int.natCast_mul]; omega) (by omega)
    rw [Int.toNat_natCast, h2, hz, made_rep hc h0 n] at h
    rw [h]

end

section


open Go.RowKit Go.ChangeShapes Go.WideShapes Go.ChangeAt

set_option linter.unusedSimpArgs false

set_option linter.unusedVariables false

attribute [local go_sem] plus_size plus_drew dn_set dn_alloc dn_plus plus_dn cell_plus frozen_plus set_plus cell_alloc frozen_alloc set_alloc

set_option maxRecDepth 100000 in
set_option maxHeartbeats 2000000 in
theorem twinNode_calls (h : NH) (n : Nd) (w : World) (hN : NodeAt w h n) (s1 : h.n ≤ 10000) : Calls Tryz.prog 41 #[vN h] w fun e w' => RetNd w n e w' := by
  show Calls Tryz.prog 41 #[.agg (fN h).toArray] w fun e w' => RetNd w n e w'
  obtain ⟨cs, hcs⟩ : ∃ cs, fN h = cs := ⟨_, rfl⟩
  have hc : cs.length = 33 := by rw [← hcs]; rfl
  have h1 : ∀ v ∈ cs, v.oneCell' = true := by rw [← hcs]; exact fN_1 h
  have hfar : cs[17]? = some (.slice h.ao h.n h.cap) := by rw [← hcs]; exact far_at h
  have hnil : h.ao = none → h.cap = 0 := fun e => (hN.nil e).2
  obtain ⟨b, hb⟩ : ∃ b, w.heap.size = b := ⟨_, rfl⟩
  rw [hcs]
  go_enter Tryz.func41, Tryz.ntmps41
  go_upto_region 1 with fail
  refine name_w (fun w' => (∃ y, w' = plus w y) ∧ w'.heap[b]? = some (.cells cs.toArray 56) ∧ (∃ z : List Value, w'.heap[b + 1]? = some (.cells z.toArray 56) ∧ z.length = 33) ∧ w'.heap.size = b + 2) ⟨(by with_reducible repeat (first | exact ex_refl _ | exact ex_more9 | apply ex_alloc | apply ex_plus | apply ex_drew | apply ex_drewN)), hb ▸ blk_old (blk_new2 _ _), ⟨_, by rw [← hb, ← size_alloc w]; exact blk_new2 _ _, rfl⟩, by rw [size_alloc, size_alloc, hb]⟩ ?_
  try simp only [hb]
  rintro w1 ⟨x1, k1, ⟨z, k2, hz⟩, z1⟩
  have p17 : w1.cell? ⟨b, 17, none⟩ = some (.slice h.ao h.n h.cap) := cell_of k1 hfar
  have hl1 := hN.lay.ex x1
  go_upto_region 2 with (go_at_call 83; refine (cloneI _ _ _ n.far _ hl1 s1 hnil).mono ?_; rintro e w2 ⟨a1, m1, c1, rfl, hw2, o1⟩; have q17 := cell_ex hw2 p17; have f17 : w2.frozen? ⟨b, 17, none⟩ = false := frozen_blk (blk_ex hw2 k1))
  refine name_w (fun w' => (∃ y, w' = plus w y) ∧ w'.heap[b]? = some (.cells (fN (farAs h a1 m1 c1)).toArray 56) ∧ w'.heap[b + 1]? = some (.cells z.toArray 56) ∧ Own 3 1 fI w w' a1 m1 c1 n.far) ⟨ex_set_new (ex_trans x1 hw2) (by omega), by have := blk_set (i := 17) (u := .slice a1 m1 c1) (blk_ex hw2 k1); rw [← hcs, far_set] at this; exact this, blk_set_far (blk_ex hw2 k2) (by omega), (o1.set_other (blk_ex hw2 k1) (by decide)).base (by omega)⟩ ?_
  rintro w4 ⟨x4, k5, k6, o5⟩
  clear o1 p17 q17 f17 hl1
  go_wp2_with (first | (refine wpList_load_row rfl 56 _ rfl b rfl _ _ _ _ k5 Tryz.underlying56 rfl (by kernel_rfl) ?_) | (refine wpList_store_box rfl 56 _ _ rfl (b + 1) (fN (farAs h a1 m1 c1)) rfl rfl _ _ k6 (by kernel_rfl) (by rw [fN_c]; simpa using hz) (fN_1 _) ?_))
  exact bodyPost_ret (v := vN (farAs h a1 m1 c1)) (results_cell_row Tryz.results41 _ _ (b + 1) 56 _ _ _ rfl (blk_row_eq k6) Tryz.underlying56 rfl (by kernel_rfl)) rfl ⟨_, rfl, ex_row_new x4 (by omega), ⟨hN.f, hN.b, o5.row_other k6 (by decide)⟩⟩

end

section


open Go.RowKit Go.ChangeShapes Go.WideShapes Go.ChangeAt

set_option linter.unusedSimpArgs false

set_option linter.unusedVariables false

attribute [local go_sem] plus_size plus_drew dn_set dn_alloc dn_plus plus_dn cell_plus frozen_plus set_plus cell_alloc frozen_alloc set_alloc

theorem run_make_N (n : Nat) (hn : n ≤ 100000) (w : World) : (Instr.makeSlice 28 (.int .i64 n) (.int .i64 n)).run Tryz.prog w = .ok (.slice (some ⟨w.heap.size, 0, none⟩) n n) (w.alloc (.cells ((List.replicate n nh0).flatMap fN).toArray 56)) :=
  run_make_zero (z := .agg (fN nh0).toArray) (c := 33) (b := 224) (by kernel_rfl) rfl Tryz.underlying28 fN_c (by decide) (by decide) n hn w

/-- a list of things in memory newer than w -/
def RetNs (w : World) (ns : List Nd) (n : Nat) (e : Ending) (w' : World) : Prop := ∃ (ao' : Option Addr) (cap' : Nat) (hs' : List NH) , e = .returned (.slice ao' n cap') ∧ (∃ y, w' = plus w y) ∧ Own 56 33 fN w w' ao' n cap' hs' ∧ (∀ k, k < n → NodeOwn w w' (nth nh0 hs' k) (nth nd0 ns k))

set_option maxRecDepth 100000 in
set_option maxHeartbeats 4000000 in
theorem twinsN_calls (ao : Option Addr) (n cap : Nat) (hs : List NH) (ns : List Nd) (w : World) (hl : Lay fN w ao n hs) (hA : NodesAt w hs ns) (hf : ∀ k, k < ns.length → FewNd (nth nd0 ns k)) (hn : n ≤ 100000) :
    Calls Tryz.prog 40 #[.slice ao n cap, .func (.func 41) #[] #[]] w fun e w' => RetNs w ns n e w' := by
  have hlen := hl.len
  have alen := hA.len
  have hmk := run_make_N n hn
  go_enter Tryz.func40, Tryz.ntmps40
  go_wp2
  go_loopw [13] (fun i wr => ∃ (k : Nat) (hs' : List NH) , k ≤ n ∧ i = .int .i64 k ∧ (∃ y, wr = plus w y) ∧ Own 56 33 fN w wr (some ⟨w.heap.size, 0, none⟩) n n hs' ∧ (∀ j, j < k → NodeOwn w wr (nth nh0 hs' j) (nth nd0 ns j))) (fun i _ => n - (intOf i).toNat)
  case atStart => exact ⟨0, List.replicate n nh0,  Nat.zero_le _, rfl, (by with_reducible repeat (first | exact ex_refl _ | exact ex_more9 | apply ex_alloc | apply ex_plus | apply ex_drew | apply ex_drewN)),  own_row (by simp) fN_c (by rw [blk_alloc, if_pos rfl]) (Nat.le_refl _) (Nat.le_trans hn (by decide)), fun j hj => by omega⟩
  case round =>
    obtain ⟨k, hs',  hk, rfl, hx,  ok, orow⟩ := hrel
    by_cases hkl : k < n
    · have ik : (k : Int) < (n : Int) := by omega
      obtain ⟨g1, o1, rfl, hg1, hc1⟩ := hl.some (by omega)
      have hp := lay_part (d := nh0) hlen fN_c hc1 hkl
      have aK := hA.one k (by omega)
      have fK : (nth nh0 hs k).n ≤ 10000 := by have h0 := hf k (by omega); have h2 := aK.lay.len; unfold FewNd at h0; omega
      obtain ⟨gb, cur, eb, hgb, hbb, hsz⟩ := ok.blk (by omega)
      cases eb
      have lb := blk_lt hbb
      replace orow := Hush9.mk orow
      replace ok := Hush9.mk ok
      replace hp := Hush9.mk hp
      obtain ⟨q, hq⟩ : ∃ q, wr.heap.size = q := ⟨_, rfl⟩
      clear hc1
      go_upto_region 5 with (first | (refine wpList_load_part rfl 56 _ rfl g1 (o1 + k * 33) rfl (fN (nth nh0 hs k)) _ (fun j v hj => cell_ex (ex_trans hx (by with_reducible repeat (first | exact ex_refl _ | exact ex_more9 | apply ex_alloc | apply ex_plus | apply ex_drew | apply ex_drewN))) (hp.it j v hj)) Tryz.underlying56 rfl (by kernel_rfl) ?_; simp only [Act.put, List.setIfInBounds_toArray, List.set_cons_succ, List.set_cons_zero]) | (refine wpList_store_box rfl 56 _ _ rfl q (fN (nth nh0 hs k)) (by simp [go_sem, hq]) rfl _ _ (by rw [← hq]; exact blk_new2 _ _) (by kernel_rfl) (by kernel_rfl) (fN_1 _) ?_))
      refine name_w (fun w' => (∃ y, w' = plus wr y) ∧ w'.heap[q]? = some (.cells (fN (nth nh0 hs k)).toArray 56)) ⟨ex_row_new (by with_reducible repeat (first | exact ex_refl _ | exact ex_more9 | apply ex_alloc | apply ex_plus | apply ex_drew | apply ex_drewN)) (by omega), blk_row_eq (by rw [← hq]; exact blk_new2 _ _)⟩ ?_
      try simp only [hq]
      rintro w2 ⟨x2, kq⟩
      have lq := blk_lt kq
      have aK := aK.ex (ex_trans hx x2)
      go_wp2_with (first | (refine wpList_load_row rfl 56 _ rfl q rfl _ _ _ _ kq Tryz.underlying56 rfl (by kernel_rfl) ?_) | (go_at_call 41; refine (twinNode_calls (nth nh0 hs k) (nth nd0 ns k) _ (aK.ex (by with_reducible repeat (first | exact ex_refl _ | exact ex_more9 | apply ex_alloc | apply ex_plus | apply ex_drew | apply ex_drewN))) fK).mono ?_; rintro e w3 ⟨h3, rfl, hx3, o3⟩) | (refine wpList_store_part rfl 56 _ _ rfl w.heap.size (k * 33) (fN h3) (by simp [go_sem]) rfl _ cur (blk_ex (ex_trans x2 hx3) hbb) (by kernel_rfl) ((ok.it.set_row hbb hkl fN_c h3).2) (fN_1 _) ?_))
      go_roundw
      case rel =>
        refine ⟨k + 1, hs'.set k h3,  by omega, by go_num, ex_row_new (ex_trans (ex_trans hx x2) hx3) (Nat.le_refl _),  ((ok.it.ex (ex_trans x2 hx3)).set_row (blk_ex (ex_trans x2 hx3) hbb) (by omega) fN_c h3).1, fun j hj => ?_⟩
        have hsl := ok.it.1
        rw [nth_set' (by omega)]
        by_cases ej : j = k
        · subst ej
          rw [if_pos rfl ]
          exact (o3.base (by have := size_ex hx; have := size_ex x2; omega)).row_other (blk_ex (ex_trans x2 hx3) hbb) (by decide)
        · rw [if_neg ej ]
          exact ((orow.it j (by omega)).ex (ex_trans x2 hx3)).row_other (blk_ex (ex_trans x2 hx3) hbb) (by decide)
      case measure => simp [intOf]; omega
    · have ik : ¬ (k : Int) < (n : Int) := by omega
      obtain rfl : n = k := by omega
      go_wp2
      go_ret
      exact ⟨_, _, hs',  rfl, ex_trans hx (by with_reducible repeat (first | exact ex_refl _ | exact ex_more9 | apply ex_alloc | apply ex_plus | apply ex_drew | apply ex_drewN)), ok.ex (by with_reducible repeat (first | exact ex_refl _ | exact ex_more9 | apply ex_alloc | apply ex_plus | apply ex_drew | apply ex_drewN)),  fun j hj => (orow j hj).ex (by with_reducible repeat (first | exact ex_refl _ | exact ex_more9 | apply ex_alloc | apply ex_plus | apply ex_drew | apply ex_drewN))⟩

end

section


open Go.RowKit Go.ChangeShapes Go.WideShapes Go.ChangeAt

set_option linter.unusedSimpArgs false

set_option linter.unusedVariables false

attribute [local go_sem] plus_size plus_drew dn_set dn_alloc dn_plus plus_dn cell_plus frozen_plus set_plus cell_alloc frozen_alloc set_alloc

theorem mtwin_at {h : MH} {hs : List PH} {m : Ms} {w : World} (a : MeshAt w h hs m) (f : FewMs m) : Calls Tryz.prog 43 #[.agg (fMh h).toArray] w fun e w' => ∃ h' ps', e = .returned (.agg (fMh h').toArray) ∧ (∃ y, w' = plus w y) ∧ MeshOwn w w' h' ps' m := by
  obtain ⟨va, vn, vc, ua, un, uc, pa, pn, pc⟩ := h
  have v := a.vl.len
  have u := a.ul.len
  have p := a.pl.len
  have q := a.pp.len
  simp only at v u p
  obtain ⟨f1, f2, f3, f4⟩ := f
  refine (twin_calls va ua pa vn vc un uc pn pc hs m w a (fun j hj => ?_) (by omega) (by omega) (by omega)).mono ?_
  · have h3 := (a.pp.one j hj).lay.len
    have h4 := f4 j (by omega)
    omega
  · rintro e w' ⟨h', ps', rfl, hw, ht, _⟩
    exact ⟨h', ps', rfl, hw, ht, fun k hk => ⟨(a.pp.one k (by omega)).lo, (a.pp.one k (by omega)).hi⟩⟩

theorem run_make_M (n : Nat) (hn : n ≤ 100000) (w : World) : (Instr.makeSlice 29 (.int .i64 n) (.int .i64 n)).run Tryz.prog w = .ok (.slice (some ⟨w.heap.size, 0, none⟩) n n) (w.alloc (.cells ((List.replicate n mh0).flatMap fMh).toArray 61)) :=
  run_make_zero (z := .agg (fMh mh0).toArray) (c := 3) (b := 72) (by kernel_rfl) rfl Tryz.underlying29 fMh_c (by decide) (by decide) n hn w

/-- a list of things in memory newer than w -/
def RetMs (w : World) (ns : List Ms) (n : Nat) (e : Ending) (w' : World) : Prop := ∃ (ao' : Option Addr) (cap' : Nat) (hs' : List MH) (ps' : List (List PH)), e = .returned (.slice ao' n cap') ∧ (∃ y, w' = plus w y) ∧ Own 61 3 fMh w w' ao' n cap' hs' ∧ ps'.length = n ∧ (∀ k, k < n → MeshOwn w w' (nth mh0 hs' k) (nth [] ps' k) (nth ms0 ns k))

set_option maxRecDepth 100000 in
set_option maxHeartbeats 4000000 in
theorem twinsM_calls (ao : Option Addr) (n cap : Nat) (hs : List MH) (ps : List (List PH)) (ns : List Ms) (w : World) (hl : Lay fMh w ao n hs) (hA : MeshesAt w hs ps ns) (hf : ∀ k, k < ns.length → FewMs (nth ms0 ns k)) (hn : n ≤ 100000) :
    Calls Tryz.prog 42 #[.slice ao n cap, .func (.func 43) #[] #[]] w fun e w' => RetMs w ns n e w' := by
  have hlen := hl.len
  have alen := hA.len
  have hmk := run_make_M n hn
  go_enter Tryz.func42, Tryz.ntmps42
  go_wp2
  go_loopw [13] (fun i wr => ∃ (k : Nat) (hs' : List MH) (ps' : List (List PH)), k ≤ n ∧ i = .int .i64 k ∧ (∃ y, wr = plus w y) ∧ ps'.length = n ∧ Own 61 3 fMh w wr (some ⟨w.heap.size, 0, none⟩) n n hs' ∧ (∀ j, j < k → MeshOwn w wr (nth mh0 hs' j) (nth [] ps' j) (nth ms0 ns j))) (fun i _ => n - (intOf i).toNat)
  case atStart => exact ⟨0, List.replicate n mh0, List.replicate n [], Nat.zero_le _, rfl, (by with_reducible repeat (first | exact ex_refl _ | exact ex_more9 | apply ex_alloc | apply ex_plus | apply ex_drew | apply ex_drewN)), by simp, own_row (by simp) fMh_c (by rw [blk_alloc, if_pos rfl]) (Nat.le_refl _) (Nat.le_trans hn (by decide)), fun j hj => by omega⟩
  case round =>
    obtain ⟨k, hs', ps', hk, rfl, hx, pl', ok, orow⟩ := hrel
    by_cases hkl : k < n
    · have ik : (k : Int) < (n : Int) := by omega
      obtain ⟨g1, o1, rfl, hg1, hc1⟩ := hl.some (by omega)
      have hp := lay_part (d := mh0) hlen fMh_c hc1 hkl
      have aK := hA.one k (by omega)
      have fK := hf k (by omega)
      obtain ⟨gb, cur, eb, hgb, hbb, hsz⟩ := ok.blk (by omega)
      cases eb
      have lb := blk_lt hbb
      replace orow := Hush9.mk orow
      replace ok := Hush9.mk ok
      replace hp := Hush9.mk hp
      obtain ⟨q, hq⟩ : ∃ q, wr.heap.size = q := ⟨_, rfl⟩
      clear hc1
      go_upto_region 5 with (first | (refine wpList_load_part rfl 61 _ rfl g1 (o1 + k * 3) rfl (fMh (nth mh0 hs k)) _ (fun j v hj => cell_ex (ex_trans hx (by with_reducible repeat (first | exact ex_refl _ | exact ex_more9 | apply ex_alloc | apply ex_plus | apply ex_drew | apply ex_drewN))) (hp.it j v hj)) Tryz.underlying61 rfl (by kernel_rfl) ?_; simp only [Act.put, List.setIfInBounds_toArray, List.set_cons_succ, List.set_cons_zero]) | (refine wpList_store_box rfl 61 _ _ rfl q (fMh (nth mh0 hs k)) (by simp [go_sem, hq]) rfl _ _ (by rw [← hq]; exact blk_new2 _ _) (by kernel_rfl) (by kernel_rfl) (fMh_1 _) ?_))
      refine name_w (fun w' => (∃ y, w' = plus wr y) ∧ w'.heap[q]? = some (.cells (fMh (nth mh0 hs k)).toArray 61)) ⟨ex_row_new (by with_reducible repeat (first | exact ex_refl _ | exact ex_more9 | apply ex_alloc | apply ex_plus | apply ex_drew | apply ex_drewN)) (by omega), blk_row_eq (by rw [← hq]; exact blk_new2 _ _)⟩ ?_
      try simp only [hq]
      rintro w2 ⟨x2, kq⟩
      have lq := blk_lt kq
      have aK := aK.ex (ex_trans hx x2)
      go_wp2_with (first | (refine wpList_load_row rfl 61 _ rfl q rfl _ _ _ _ kq Tryz.underlying61 rfl (by kernel_rfl) ?_) | (go_at_call 43; refine (mtwin_at (aK.ex (by with_reducible repeat (first | exact ex_refl _ | exact ex_more9 | apply ex_alloc | apply ex_plus | apply ex_drew | apply ex_drewN))) fK).mono ?_; rintro e w3 ⟨h3, p3, rfl, hx3, o3⟩) | (refine wpList_store_part rfl 61 _ _ rfl w.heap.size (k * 3) (fMh h3) (by simp [go_sem]) rfl _ cur (blk_ex (ex_trans x2 hx3) hbb) (by kernel_rfl) ((ok.it.set_row hbb hkl fMh_c h3).2) (fMh_1 _) ?_))
      go_roundw
      case rel =>
        refine ⟨k + 1, hs'.set k h3, ps'.set k p3, by omega, by go_num, ex_row_new (ex_trans (ex_trans hx x2) hx3) (Nat.le_refl _), by rw [List.length_set]; exact pl', ((ok.it.ex (ex_trans x2 hx3)).set_row (blk_ex (ex_trans x2 hx3) hbb) (by omega) fMh_c h3).1, fun j hj => ?_⟩
        have hsl := ok.it.1
        rw [nth_set' (by omega), nth_set' (d := ([] : List PH)) (by omega)]
        by_cases ej : j = k
        · subst ej
          rw [if_pos rfl , if_pos rfl]
          exact (o3.base (by have := size_ex hx; have := size_ex x2; omega)).row_other (blk_ex (ex_trans x2 hx3) hbb) (by decide) (by decide) (by decide) (by decide)
        · rw [if_neg ej , if_neg ej]
          exact ((orow.it j (by omega)).ex (ex_trans x2 hx3)).row_other (blk_ex (ex_trans x2 hx3) hbb) (by decide) (by decide) (by decide) (by decide)
      case measure => simp [intOf]; omega
    · have ik : ¬ (k : Int) < (n : Int) := by omega
      obtain rfl : n = k := by omega
      go_wp2
      go_ret
      exact ⟨_, _, hs', ps', rfl, ex_trans hx (by with_reducible repeat (first | exact ex_refl _ | exact ex_more9 | apply ex_alloc | apply ex_plus | apply ex_drew | apply ex_drewN)), ok.ex (by with_reducible repeat (first | exact ex_refl _ | exact ex_more9 | apply ex_alloc | apply ex_plus | apply ex_drew | apply ex_drewN)), pl', fun j hj => (orow j hj).ex (by with_reducible repeat (first | exact ex_refl _ | exact ex_more9 | apply ex_alloc | apply ex_plus | apply ex_drew | apply ex_drewN))⟩

end

section


open Go.RowKit Go.ChangeShapes Go.WideShapes Go.ChangeAt

set_option linter.unusedSimpArgs false

set_option linter.unusedVariables false

attribute [local go_sem] plus_size plus_drew dn_set dn_alloc dn_plus plus_dn cell_plus frozen_plus set_plus cell_alloc frozen_alloc set_alloc

theorem ttwin_at {h : TH} {m : Tp} {w : World} (a : TexAt w h m) (f : FewTp m) : Calls Tryz.prog 45 #[.agg (fTh h).toArray] w fun e w' => ∃ h', e = .returned (.agg (fTh h').toArray) ∧ (∃ y, w' = plus w y) ∧ TexOwn w w' h' m := by
  obtain ⟨tw, th, ao, n, cap⟩ := h
  have v := a.tx.lay.len
  have hnil := a.tx.nil
  simp only at v hnil
  unfold FewTp at f
  refine (ttwin_calls tw th ao n cap m.l w a.tx.lay (by omega) (fun e => (hnil e).2)).mono ?_
  rintro e w' ⟨ao', cap', rfl, hw, ho⟩
  exact ⟨⟨tw, th, ao', n, cap'⟩, rfl, hw, a.we, a.he, ho, fun k hk => a.tx.ok k (by simp only; omega)⟩

theorem run_make_T (n : Nat) (hn : n ≤ 100000) (w : World) : (Instr.makeSlice 30 (.int .i64 n) (.int .i64 n)).run Tryz.prog w = .ok (.slice (some ⟨w.heap.size, 0, none⟩) n n) (w.alloc (.cells ((List.replicate n th0).flatMap fTh).toArray 64)) :=
  run_make_zero (z := .agg (fTh th0).toArray) (c := 3) (b := 40) (by kernel_rfl) rfl Tryz.underlying30 fTh_c (by decide) (by decide) n hn w

/-- a list of things in memory newer than w -/
def RetTs (w : World) (ns : List Tp) (n : Nat) (e : Ending) (w' : World) : Prop := ∃ (ao' : Option Addr) (cap' : Nat) (hs' : List TH) , e = .returned (.slice ao' n cap') ∧ (∃ y, w' = plus w y) ∧ Own 64 3 fTh w w' ao' n cap' hs' ∧ (∀ k, k < n → TexOwn w w' (nth th0 hs' k) (nth tp0 ns k))

set_option maxRecDepth 100000 in
set_option maxHeartbeats 4000000 in
theorem twinsT_calls (ao : Option Addr) (n cap : Nat) (hs : List TH) (ns : List Tp) (w : World) (hl : Lay fTh w ao n hs) (hA : TexsAt w hs ns) (hf : ∀ k, k < ns.length → FewTp (nth tp0 ns k)) (hn : n ≤ 100000) :
    Calls Tryz.prog 44 #[.slice ao n cap, .func (.func 45) #[] #[]] w fun e w' => RetTs w ns n e w' := by
  have hlen := hl.len
  have alen := hA.len
  have hmk := run_make_T n hn
  go_enter Tryz.func44, Tryz.ntmps44
  go_wp2
  go_loopw [13] (fun i wr => ∃ (k : Nat) (hs' : List TH) , k ≤ n ∧ i = .int .i64 k ∧ (∃ y, wr = plus w y) ∧ Own 64 3 fTh w wr (some ⟨w.heap.size, 0, none⟩) n n hs' ∧ (∀ j, j < k → TexOwn w wr (nth th0 hs' j) (nth tp0 ns j))) (fun i _ => n - (intOf i).toNat)
  case atStart => exact ⟨0, List.replicate n th0,  Nat.zero_le _, rfl, (by with_reducible repeat (first | exact ex_refl _ | exact ex_more9 | apply ex_alloc | apply ex_plus | apply ex_drew | apply ex_drewN)),  own_row (by simp) fTh_c (by rw [blk_alloc, if_pos rfl]) (Nat.le_refl _) (Nat.le_trans hn (by decide)), fun j hj => by omega⟩
  case round =>
    obtain ⟨k, hs',  hk, rfl, hx,  ok, orow⟩ := hrel
    by_cases hkl : k < n
    · have ik : (k : Int) < (n : Int) := by omega
      obtain ⟨g1, o1, rfl, hg1, hc1⟩ := hl.some (by omega)
      have hp := lay_part (d := th0) hlen fTh_c hc1 hkl
      have aK := hA.one k (by omega)
      have fK := hf k (by omega)
      obtain ⟨gb, cur, eb, hgb, hbb, hsz⟩ := ok.blk (by omega)
      cases eb
      have lb := blk_lt hbb
      replace orow := Hush9.mk orow
      replace ok := Hush9.mk ok
      replace hp := Hush9.mk hp
      obtain ⟨q, hq⟩ : ∃ q, wr.heap.size = q := ⟨_, rfl⟩
      clear hc1
      go_upto_region 5 with (first | (refine wpList_load_part rfl 64 _ rfl g1 (o1 + k * 3) rfl (fTh (nth th0 hs k)) _ (fun j v hj => cell_ex (ex_trans hx (by with_reducible repeat (first | exact ex_refl _ | exact ex_more9 | apply ex_alloc | apply ex_plus | apply ex_drew | apply ex_drewN))) (hp.it j v hj)) Tryz.underlying64 rfl (by kernel_rfl) ?_; simp only [Act.put, List.setIfInBounds_toArray, List.set_cons_succ, List.set_cons_zero]) | (refine wpList_store_box rfl 64 _ _ rfl q (fTh (nth th0 hs k)) (by simp [go_sem, hq]) rfl _ _ (by rw [← hq]; exact blk_new2 _ _) (by kernel_rfl) (by kernel_rfl) (fTh_1 _) ?_))
      refine name_w (fun w' => (∃ y, w' = plus wr y) ∧ w'.heap[q]? = some (.cells (fTh (nth th0 hs k)).toArray 64)) ⟨ex_row_new (by with_reducible repeat (first | exact ex_refl _ | exact ex_more9 | apply ex_alloc | apply ex_plus | apply ex_drew | apply ex_drewN)) (by omega), blk_row_eq (by rw [← hq]; exact blk_new2 _ _)⟩ ?_
      try simp only [hq]
      rintro w2 ⟨x2, kq⟩
      have lq := blk_lt kq
      have aK := aK.ex (ex_trans hx x2)
      go_wp2_with (first | (refine wpList_load_row rfl 64 _ rfl q rfl _ _ _ _ kq Tryz.underlying64 rfl (by kernel_rfl) ?_) | (go_at_call 45; refine (ttwin_at (aK.ex (by with_reducible repeat (first | exact ex_refl _ | exact ex_more9 | apply ex_alloc | apply ex_plus | apply ex_drew | apply ex_drewN))) fK).mono ?_; rintro e w3 ⟨h3, rfl, hx3, o3⟩) | (refine wpList_store_part rfl 64 _ _ rfl w.heap.size (k * 3) (fTh h3) (by simp [go_sem]) rfl _ cur (blk_ex (ex_trans x2 hx3) hbb) (by kernel_rfl) ((ok.it.set_row hbb hkl fTh_c h3).2) (fTh_1 _) ?_))
      go_roundw
      case rel =>
        refine ⟨k + 1, hs'.set k h3,  by omega, by go_num, ex_row_new (ex_trans (ex_trans hx x2) hx3) (Nat.le_refl _),  ((ok.it.ex (ex_trans x2 hx3)).set_row (blk_ex (ex_trans x2 hx3) hbb) (by omega) fTh_c h3).1, fun j hj => ?_⟩
        have hsl := ok.it.1
        rw [nth_set' (by omega)]
        by_cases ej : j = k
        · subst ej
          rw [if_pos rfl ]
          exact (o3.base (by have := size_ex hx; have := size_ex x2; omega)).row_other (blk_ex (ex_trans x2 hx3) hbb) (by decide)
        · rw [if_neg ej ]
          exact ((orow.it j (by omega)).ex (ex_trans x2 hx3)).row_other (blk_ex (ex_trans x2 hx3) hbb) (by decide)
      case measure => simp [intOf]; omega
    · have ik : ¬ (k : Int) < (n : Int) := by omega
      obtain rfl : n = k := by omega
      go_wp2
      go_ret
      exact ⟨_, _, hs',  rfl, ex_trans hx (by with_reducible repeat (first | exact ex_refl _ | exact ex_more9 | apply ex_alloc | apply ex_plus | apply ex_drew | apply ex_drewN)), ok.ex (by with_reducible repeat (first | exact ex_refl _ | exact ex_more9 | apply ex_alloc | apply ex_plus | apply ex_drew | apply ex_drewN)),  fun j hj => (orow j hj).ex (by with_reducible repeat (first | exact ex_refl _ | exact ex_more9 | apply ex_alloc | apply ex_plus | apply ex_drew | apply ex_drewN))⟩

end

end Go.Proofs.YtcekcihijdipoaaGreat
