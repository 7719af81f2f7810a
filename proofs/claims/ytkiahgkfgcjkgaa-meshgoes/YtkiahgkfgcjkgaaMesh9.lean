/- What mesh.primsMayBe gives. -/
import Derived.Test.YtkiahgkfgcjkgaaMesh8
import Derived.Test.YtkiahgkfgcjkgaaMesh3
namespace Go.Proofs.Ytkiahgkfgcjkgaa
open Go.RowKit Go.ChangeShapes Go.WideShapes Go.ChangeAt
set_option linter.unusedSimpArgs false
set_option linter.unusedVariables false
attribute [local go_sem] plus_size plus_drew dn_set dn_alloc dn_plus plus_dn cell_plus frozen_plus set_plus cell_alloc frozen_alloc set_alloc

attribute [local go_sem] eqarr_34 nearr_34 larr_34

attribute [local go_sem] eqarr_50 nearr_50 larr_50

attribute [local go_sem] isnil_26

attribute [local go_sem] isnil_29

attribute [local go_sem] isnil_30

attribute [local go_sem] isnil_31

set_option maxHeartbeats 4000000 in
theorem primsMay_calls (va ua pa : Option Addr) (vn vc un uc pn pc : Nat) (hs : List PH) (ps : List Pr) (w : World) (hpl : Lay fP w pa pn hs) (hpp : PrimsAt w hs ps) (hvn : vn ≤ 10000) (hpn : pn ≤ 10000) :
    Calls Try.prog 28 #[.agg #[.slice va vn vc, .slice ua un uc, .slice pa pn pc]] w fun e w' => e = .returned (.bool (psOk vn ps)) ∧ Below w.heap.size w w' := by
  have hpl1 := hpl.len
  have hpl2 := hpp.len
  have iwv : IntKind.i64.wrap ((vn : Int) - 1) = (vn : Int) - 1 := by
    simp [IntKind.wrap, IntKind.bits, IntKind.signed]
    omega
  go_enter Try.func28, Try.ntmps28
  go_wp2
  go_loopw [3, 11] (fun c i wr => ∃ k : Nat, k ≤ pn ∧ c = .int .i64 (trisN ps k) ∧ i = .int .i64 k ∧ (∀ j, j < k → pOk vn (nth dPr ps j) = true) ∧ ∃ x, wr = plus (w.alloc (.cells #[.slice va vn vc, .slice ua un uc, .slice pa pn pc] 33)) x) (fun _ i _ => pn - (intOf i).toNat)
  case atStart => exact ⟨0, Nat.zero_le _, rfl, rfl, fun j hj => by omega, (by with_reducible repeat (first | exact ex_refl _ | exact ex_more | apply ex_alloc | apply ex_plus | apply ex_drew | apply ex_drewN))⟩
  case round =>
    obtain ⟨k, hk, rfl, rfl, hs1, x, rfl⟩ := hrel
    have hT := trisN_le (ps := ps) (k := k) (by omega) (ps_errs hs1)
    by_cases hkl : k < pn
    · obtain ⟨g, off, rfl, hg, hcell⟩ := hpl.some (by omega)
      have hsucc := trisN_succ (ps := ps) (k := k) (by omega)
      obtain ⟨d0, d1⟩ := cellP hpl.len hcell (k := k) hkl
      have hp := hpp.one k (by rw [hpl.len]; exact hkl)
      generalize hpe : nth dPr ps k = p at *
      generalize hhe : nth dPH hs k = hh at *
      obtain ⟨kind, ao1, n1, cap1⟩ := hh
      obtain ⟨kind2, ix⟩ := p
      obtain ⟨hk1, hk2, hk3, hk4, hk5, hk6⟩ := hp
      simp only at d0 d1 hk1 hk2 hk3 hk4 hk5 hk6
      subst hk1
      have ik : (k : Int) < (pn : Int) := by omega
      have hixl := hk6.len
      rcases prErr_or ⟨kind, ix⟩ with he | he | he | he
      · go_wp2_with (go_at_call 9; refine (mprim_calls _ _ _ _ ix _ hk2 (hk6.ex (by with_reducible repeat (first | exact ex_refl _ | exact ex_more | apply ex_alloc | apply ex_plus | apply ex_drew | apply ex_drewN | (apply ex_on; assumption)))) hk4).mono ?_; rintro e w1 ⟨ao2, m1, cap2, rfl, hw1, hl1⟩; rw [he]; have a0 : w1.cell? ⟨w.heap.size, 0, none⟩ = some (.slice va vn vc) := cell_ex hw1 (by simp [go_sem, ↓IntWalk.iteOmega]); have a1 : w1.cell? ⟨w.heap.size + 1 + (blocks x).size, 1, none⟩ = some (.slice ao1 n1 cap1) := cell_ex hw1 (by simp [go_sem, ↓IntWalk.iteOmega]); have hz1 := cell_lt a0; have hz2 := cell_lt a1)
        go_ret
        exact ⟨by rw [show psOk vn ps = false by rw [psOk, all_not (d := dPr) (k := k) (by omega) (by rw [hpe]; exact pOk_not1 (by rw [he]; decide)), Bool.false_and]]; rfl, below_ex (by with_reducible repeat (first | exact ex_refl _ | exact ex_more | apply ex_alloc | apply ex_plus | apply ex_drew | apply ex_drewN | (apply ex_on; assumption)))⟩
      · go_wp2_with (go_at_call 9; refine (mprim_calls _ _ _ _ ix _ hk2 (hk6.ex (by with_reducible repeat (first | exact ex_refl _ | exact ex_more | apply ex_alloc | apply ex_plus | apply ex_drew | apply ex_drewN | (apply ex_on; assumption)))) hk4).mono ?_; rintro e w1 ⟨ao2, m1, cap2, rfl, hw1, hl1⟩; rw [he]; have a0 : w1.cell? ⟨w.heap.size, 0, none⟩ = some (.slice va vn vc) := cell_ex hw1 (by simp [go_sem, ↓IntWalk.iteOmega]); have a1 : w1.cell? ⟨w.heap.size + 1 + (blocks x).size, 1, none⟩ = some (.slice ao1 n1 cap1) := cell_ex hw1 (by simp [go_sem, ↓IntWalk.iteOmega]); have hz1 := cell_lt a0; have hz2 := cell_lt a1)
        go_ret
        exact ⟨by rw [show psOk vn ps = false by rw [psOk, all_not (d := dPr) (k := k) (by omega) (by rw [hpe]; exact pOk_not1 (by rw [he]; decide)), Bool.false_and]]; rfl, below_ex (by with_reducible repeat (first | exact ex_refl _ | exact ex_more | apply ex_alloc | apply ex_plus | apply ex_drew | apply ex_drewN | (apply ex_on; assumption)))⟩
      · go_wp2_with (go_at_call 9; refine (mprim_calls _ _ _ _ ix _ hk2 (hk6.ex (by with_reducible repeat (first | exact ex_refl _ | exact ex_more | apply ex_alloc | apply ex_plus | apply ex_drew | apply ex_drewN | (apply ex_on; assumption)))) hk4).mono ?_; rintro e w1 ⟨ao2, m1, cap2, rfl, hw1, hl1⟩; rw [he]; have a0 : w1.cell? ⟨w.heap.size, 0, none⟩ = some (.slice va vn vc) := cell_ex hw1 (by simp [go_sem, ↓IntWalk.iteOmega]); have a1 : w1.cell? ⟨w.heap.size + 1 + (blocks x).size, 1, none⟩ = some (.slice ao1 n1 cap1) := cell_ex hw1 (by simp [go_sem, ↓IntWalk.iteOmega]); have hz1 := cell_lt a0; have hz2 := cell_lt a1)
        go_ret
        exact ⟨by rw [show psOk vn ps = false by rw [psOk, all_not (d := dPr) (k := k) (by omega) (by rw [hpe]; exact pOk_not1 (by rw [he]; decide)), Bool.false_and]]; rfl, below_ex (by with_reducible repeat (first | exact ex_refl _ | exact ex_more | apply ex_alloc | apply ex_plus | apply ex_drew | apply ex_drewN | (apply ex_on; assumption)))⟩
      have h200 := ix_200 he
      have h200' := prTris_200 he
      simp only at h200
      cases hi : ix.all (inR 0 ((vn : Int) - 1))
      · go_wp2_with (first | (go_at_call 9; refine (mprim_calls _ _ _ _ ix _ hk2 (hk6.ex (by with_reducible repeat (first | exact ex_refl _ | exact ex_more | apply ex_alloc | apply ex_plus | apply ex_drew | apply ex_drewN | (apply ex_on; assumption)))) hk4).mono ?_; rintro e w1 ⟨ao2, m1, cap2, rfl, hw1, hl1⟩; rw [he]; have a0 : w1.cell? ⟨w.heap.size, 0, none⟩ = some (.slice va vn vc) := cell_ex hw1 (by simp [go_sem, ↓IntWalk.iteOmega]); have a1 : w1.cell? ⟨w.heap.size + 1 + (blocks x).size, 1, none⟩ = some (.slice ao1 n1 cap1) := cell_ex hw1 (by simp [go_sem, ↓IntWalk.iteOmega]); have hz1 := cell_lt a0; have hz2 := cell_lt a1) | (go_at_call 42; refine (plus_post (within_calls _ _ _ _ _ ix _ (hk6.ex (by with_reducible repeat (first | exact ex_refl _ | exact ex_more | apply ex_alloc | apply ex_plus | apply ex_drew | apply ex_drewN | (apply ex_on; assumption)))) (by omega))).mono ?_; rintro e w' ⟨rfl, nx, rfl⟩; rw [hi]))
        go_ret
        exact ⟨by rw [show psOk vn ps = false by rw [psOk, all_not (d := dPr) (k := k) (by omega) (by rw [hpe]; exact pOk_not2 hi), Bool.false_and]]; rfl, below_ex (by with_reducible repeat (first | exact ex_refl _ | exact ex_more | apply ex_alloc | apply ex_plus | apply ex_drew | apply ex_drewN | (apply ex_on; assumption)))⟩
      · have hm1 : ∀ m1 : Nat, (prList ⟨kind, ix⟩).length = m1 → trisN ps (k + 1) = trisN ps k + m1 := by
          intro m1 h1
          rw [prList_good he] at h1
          rw [hsucc, h1]
        go_wp2_with (first | (go_at_call 9; refine (mprim_calls _ _ _ _ ix _ hk2 (hk6.ex (by with_reducible repeat (first | exact ex_refl _ | exact ex_more | apply ex_alloc | apply ex_plus | apply ex_drew | apply ex_drewN | (apply ex_on; assumption)))) hk4).mono ?_; rintro e w1 ⟨ao2, m1, cap2, rfl, hw1, hl1⟩; rw [he]; have a0 : w1.cell? ⟨w.heap.size, 0, none⟩ = some (.slice va vn vc) := cell_ex hw1 (by simp [go_sem, ↓IntWalk.iteOmega]); have a1 : w1.cell? ⟨w.heap.size + 1 + (blocks x).size, 1, none⟩ = some (.slice ao1 n1 cap1) := cell_ex hw1 (by simp [go_sem, ↓IntWalk.iteOmega]); have hz1 := cell_lt a0; have hz2 := cell_lt a1; have hsc := hm1 m1 hl1.len; have iws : IntKind.i64.wrap ((trisN ps k : Int) + (m1 : Int)) = (trisN ps k : Int) + (m1 : Int) := wrap_le (by omega)) | (go_at_call 42; refine (plus_post (within_calls _ _ _ _ _ ix _ (hk6.ex (by with_reducible repeat (first | exact ex_refl _ | exact ex_more | apply ex_alloc | apply ex_plus | apply ex_drew | apply ex_drewN | (apply ex_on; assumption)))) (by omega))).mono ?_; rintro e w' ⟨rfl, nx, rfl⟩; rw [hi]))
        go_roundw
        case rel => exact ⟨k + 1, by omega, by go_num, by go_num, upto_succ hs1 (by rw [hpe]; exact pOk_yes he hi), (by with_reducible repeat (first | exact ex_refl _ | exact ex_more | apply ex_alloc | apply ex_plus | apply ex_drew | apply ex_drewN | (apply ex_on; assumption)))⟩
        case measure => simp [intOf]; omega
    · have ik : ¬ (k : Int) < (pn : Int) := by omega
      obtain rfl : k = pn := by omega
      by_cases h64 : trisN ps k ≤ 64
      · have i64 : (trisN ps k : Int) ≤ 64 := by omega
        go_wp2
        go_ret
        exact ⟨by rw [show psOk vn ps = true by rw [psOk, all_yes (d := dPr) (fun j hj => hs1 j (by omega)), Bool.true_and, ← hpl2, hpl1, decide_eq_true h64]]; rfl, by with_reducible repeat (first | exact Below.refl _ _ | apply ba | apply bp | apply bd | apply bn)⟩
      · have i64 : ¬ (trisN ps k : Int) ≤ 64 := by omega
        have d64 : decide ((trisN ps k : Int) ≤ 64) = false := decide_eq_false i64
        go_wp2
        go_ret
        exact ⟨by rw [show psOk vn ps = false by rw [psOk, ← hpl2, hpl1, decide_eq_false h64, Bool.and_false]]; rfl, by with_reducible repeat (first | exact Below.refl _ _ | apply ba | apply bp | apply bd | apply bn)⟩

end Go.Proofs.Ytkiahgkfgcjkgaa
