/- What dioramaref04.All gives. -/
import Derived.Test.YtkiahgkfgcjkgaaMesh7
import Derived.Test.YtkiahgkfgcjkgaaMesh4
import Derived.Test.YtkiahgkfgcjkgaaMeshMath3
namespace Go.Proofs.Ytkiahgkfgcjkgaa
open Go.RowKit Go.ChangeShapes Go.WideShapes Go.ChangeAt
set_option linter.unusedSimpArgs false
set_option linter.unusedVariables false
attribute [local go_sem] plus_size plus_drew dn_set dn_alloc dn_plus plus_dn cell_plus frozen_plus set_plus cell_alloc frozen_alloc set_alloc

attribute [local go_sem] eqarr_34 nearr_34 larr_34

attribute [local go_sem] eqarr_50 nearr_50 larr_50

attribute [local go_sem] isnil_26

attribute [local go_sem] isnil_29

attribute [local go_sem] isnil_30

attribute [local go_sem] isnil_31

def allOk (nv : Nat) (ps : List Pr) : Bool := ps.all (pOk nv)
def allList (nv : Nat) (ps : List Pr) : List V3 := if allOk nv ps = true then tris ps ps.length else []

set_option maxRecDepth 100000 in
set_option maxHeartbeats 4000000 in
theorem all_calls (va ua pa : Option Addr) (vn vc un uc pn pc : Nat) (hs : List PH) (ps : List Pr) (w : World) (hpl : Lay fP w pa pn hs) (hpp : PrimsAt w hs ps) (hvn : vn ≤ 10000) (hpn : pn ≤ 100) :
    Calls Try.prog 29 #[.agg #[.slice va vn vc, .slice ua un uc, .slice pa pn pc]] w fun e w' => RetT fV w (allList vn ps) (.bool (allOk vn ps)) e w' := by
  have hpl1 := hpl.len
  have hpl2 := hpp.len
  have iwv : IntKind.i64.wrap ((vn : Int) - 1) = (vn : Int) - 1 := by
    simp [IntKind.wrap, IntKind.bits, IntKind.signed]
    omega
  go_enter Try.func29, Try.ntmps29
  go_wp2
  go_loopw [4, 5] (fun v i wr => ∃ (k : Nat) (ao' : Option Addr) (cap' : Nat), k ≤ pn ∧ v = .slice ao' (trisN ps k) cap' ∧ i = .int .i64 k ∧ (∀ j, j < k → pOk vn (nth dPr ps j) = true) ∧ (∃ y, wr = plus (w.alloc (.cells #[.slice va vn vc, .slice ua un uc, .slice pa pn pc] 33)) y) ∧ Own 34 3 fV (w.alloc (.cells #[.slice va vn vc, .slice ua un uc, .slice pa pn pc] 33)) wr ao' (trisN ps k) cap' (tris ps k)) (fun _ i _ => pn - (intOf i).toNat)
  case atStart => exact ⟨0, none, 0, Nat.zero_le _, rfl, rfl, fun j hj => by omega, (by with_reducible repeat (first | exact ex_refl _ | exact ex_more | apply ex_alloc | apply ex_plus | apply ex_drew | apply ex_drewN)), own_nil⟩
  case round =>
    obtain ⟨k, ao', cap', hk, rfl, rfl, hs1, ⟨x, rfl⟩, hown⟩ := hrel
    have hT := trisN_le (ps := ps) (k := k) (by omega) (ps_errs hs1)
    by_cases hkl : k < pn
    · obtain ⟨g, off, rfl, hg, hcell⟩ := hpl.some (by omega)
      have hsucc := trisN_succ (ps := ps) (k := k) (by omega)
      have hsucc2 := tris_succ (ps := ps) (k := k) (by omega)
      obtain ⟨d0, d1⟩ := cellP hpl.len hcell (k := k) hkl
      have hp := hpp.one k (by rw [hpl.len]; exact hkl)
      generalize hpe : nth dPr ps k = p at *
      generalize hhe : nth dPH hs k = hh at *
      obtain ⟨kind, ao1, n1, cap1⟩ := hh
      obtain ⟨kind2, ix⟩ := p
      obtain ⟨hk1, hk2, hk3, hk4, hk5, hk6⟩ := hp
      simp only at d0 d1 hk1 hk2 hk3 hk4 hk5 hk6
      subst hk1
      have ik : (k : Int) < (pn : Int) := by omega
      have hixl := hk6.len
      rcases prErr_or ⟨kind, ix⟩ with he | he | he | he
      · go_wp2_with (go_at_call 12; refine (rprim_calls _ _ _ _ ix _ hk2 (hk6.ex (by with_reducible repeat (first | exact ex_refl _ | exact ex_more | apply ex_alloc | apply ex_plus | apply ex_drew | apply ex_drewN | (apply ex_on; assumption)))) hk4).mono ?_; rintro e w1 ⟨ao2, m1, cap2, rfl, hw1, hl1⟩; rw [he]; have a0 : w1.cell? ⟨w.heap.size, 0, none⟩ = some (.slice va vn vc) := cell_ex hw1 (by simp [go_sem, ↓IntWalk.iteOmega]); have a2 : w1.cell? ⟨w.heap.size, 2, none⟩ = some (.slice (some ⟨g, off, none⟩) pn pc) := cell_ex hw1 (by simp [go_sem, ↓IntWalk.iteOmega]); have hz1 := cell_lt a0; have e1 := cell_ex ((by with_reducible repeat (first | exact ex_refl _ | exact ex_more | apply ex_alloc | apply ex_plus | apply ex_drew | apply ex_drewN | (apply ex_on; assumption))) : ∃ y, w1 = plus w y) d1; have hge := cell_lt e1; have hixw := hk6.ex (w' := w1) (by with_reducible repeat (first | exact ex_refl _ | exact ex_more | apply ex_alloc | apply ex_plus | apply ex_drew | apply ex_drewN | (apply ex_on; assumption))))
        have hno : allOk vn ps = false := by rw [allOk, all_not (d := dPr) (k := k) (by omega) (by rw [hpe]; exact pOk_not1 (by rw [he]; decide))]
        exact bodyPost_ret (v := .tuple #[.slice none 0 0, .bool false]) (by simp [results, Try.results29, go_sem]) rfl ⟨_, _, _, by rw [hno], (by with_reducible repeat (first | exact ex_refl _ | exact ex_more | apply ex_alloc | apply ex_plus | apply ex_drew | apply ex_drewN | (apply ex_on; assumption))), by rw [allList, hno]; exact Lay.nil⟩
      · go_wp2_with (go_at_call 12; refine (rprim_calls _ _ _ _ ix _ hk2 (hk6.ex (by with_reducible repeat (first | exact ex_refl _ | exact ex_more | apply ex_alloc | apply ex_plus | apply ex_drew | apply ex_drewN | (apply ex_on; assumption)))) hk4).mono ?_; rintro e w1 ⟨ao2, m1, cap2, rfl, hw1, hl1⟩; rw [he]; have a0 : w1.cell? ⟨w.heap.size, 0, none⟩ = some (.slice va vn vc) := cell_ex hw1 (by simp [go_sem, ↓IntWalk.iteOmega]); have a2 : w1.cell? ⟨w.heap.size, 2, none⟩ = some (.slice (some ⟨g, off, none⟩) pn pc) := cell_ex hw1 (by simp [go_sem, ↓IntWalk.iteOmega]); have hz1 := cell_lt a0; have e1 := cell_ex ((by with_reducible repeat (first | exact ex_refl _ | exact ex_more | apply ex_alloc | apply ex_plus | apply ex_drew | apply ex_drewN | (apply ex_on; assumption))) : ∃ y, w1 = plus w y) d1; have hge := cell_lt e1; have hixw := hk6.ex (w' := w1) (by with_reducible repeat (first | exact ex_refl _ | exact ex_more | apply ex_alloc | apply ex_plus | apply ex_drew | apply ex_drewN | (apply ex_on; assumption))))
        have hno : allOk vn ps = false := by rw [allOk, all_not (d := dPr) (k := k) (by omega) (by rw [hpe]; exact pOk_not1 (by rw [he]; decide))]
        exact bodyPost_ret (v := .tuple #[.slice none 0 0, .bool false]) (by simp [results, Try.results29, go_sem]) rfl ⟨_, _, _, by rw [hno], (by with_reducible repeat (first | exact ex_refl _ | exact ex_more | apply ex_alloc | apply ex_plus | apply ex_drew | apply ex_drewN | (apply ex_on; assumption))), by rw [allList, hno]; exact Lay.nil⟩
      · go_wp2_with (go_at_call 12; refine (rprim_calls _ _ _ _ ix _ hk2 (hk6.ex (by with_reducible repeat (first | exact ex_refl _ | exact ex_more | apply ex_alloc | apply ex_plus | apply ex_drew | apply ex_drewN | (apply ex_on; assumption)))) hk4).mono ?_; rintro e w1 ⟨ao2, m1, cap2, rfl, hw1, hl1⟩; rw [he]; have a0 : w1.cell? ⟨w.heap.size, 0, none⟩ = some (.slice va vn vc) := cell_ex hw1 (by simp [go_sem, ↓IntWalk.iteOmega]); have a2 : w1.cell? ⟨w.heap.size, 2, none⟩ = some (.slice (some ⟨g, off, none⟩) pn pc) := cell_ex hw1 (by simp [go_sem, ↓IntWalk.iteOmega]); have hz1 := cell_lt a0; have e1 := cell_ex ((by with_reducible repeat (first | exact ex_refl _ | exact ex_more | apply ex_alloc | apply ex_plus | apply ex_drew | apply ex_drewN | (apply ex_on; assumption))) : ∃ y, w1 = plus w y) d1; have hge := cell_lt e1; have hixw := hk6.ex (w' := w1) (by with_reducible repeat (first | exact ex_refl _ | exact ex_more | apply ex_alloc | apply ex_plus | apply ex_drew | apply ex_drewN | (apply ex_on; assumption))))
        have hno : allOk vn ps = false := by rw [allOk, all_not (d := dPr) (k := k) (by omega) (by rw [hpe]; exact pOk_not1 (by rw [he]; decide))]
        exact bodyPost_ret (v := .tuple #[.slice none 0 0, .bool false]) (by simp [results, Try.results29, go_sem]) rfl ⟨_, _, _, by rw [hno], (by with_reducible repeat (first | exact ex_refl _ | exact ex_more | apply ex_alloc | apply ex_plus | apply ex_drew | apply ex_drewN | (apply ex_on; assumption))), by rw [allList, hno]; exact Lay.nil⟩
      have h200 := ix_200 he
      have h201 := prTris_200 he
      simp only at h200
      go_wp2_with (go_at_call 12; refine (rprim_calls _ _ _ _ ix _ hk2 (hk6.ex (by with_reducible repeat (first | exact ex_refl _ | exact ex_more | apply ex_alloc | apply ex_plus | apply ex_drew | apply ex_drewN | (apply ex_on; assumption)))) hk4).mono ?_; rintro e w1 ⟨ao2, m1, cap2, rfl, hw1, hl1⟩; rw [he]; have a0 : w1.cell? ⟨w.heap.size, 0, none⟩ = some (.slice va vn vc) := cell_ex hw1 (by simp [go_sem, ↓IntWalk.iteOmega]); have a2 : w1.cell? ⟨w.heap.size, 2, none⟩ = some (.slice (some ⟨g, off, none⟩) pn pc) := cell_ex hw1 (by simp [go_sem, ↓IntWalk.iteOmega]); have hz1 := cell_lt a0; have e1 := cell_ex ((by with_reducible repeat (first | exact ex_refl _ | exact ex_more | apply ex_alloc | apply ex_plus | apply ex_drew | apply ex_drewN | (apply ex_on; assumption))) : ∃ y, w1 = plus w y) d1; have hge := cell_lt e1; have hixw := hk6.ex (w' := w1) (by with_reducible repeat (first | exact ex_refl _ | exact ex_more | apply ex_alloc | apply ex_plus | apply ex_drew | apply ex_drewN | (apply ex_on; assumption))))
      rw [prList_good he] at hl1
      have hm1 := hl1.len
      go_loopw [8] (fun i wr => ∃ q : Nat, q ≤ n1 ∧ i = .int .i64 q ∧ (∀ j, j < q → inR 0 ((vn : Int) - 1) (nth 0 ix j) = true) ∧ ∃ x, wr = plus w1 x) (fun i _ => n1 - (intOf i).toNat)
      case atStart => exact ⟨0, Nat.zero_le _, rfl, fun j hj => by omega, (by with_reducible repeat (first | exact ex_refl _ | exact ex_more | apply ex_alloc | apply ex_plus | apply ex_drew | apply ex_drewN))⟩
      case round =>
        obtain ⟨q, hq, rfl, hin, x2, rfl⟩ := hrel
        by_cases hql : q < n1
        · have iq : (q : Int) < (n1 : Int) := by omega
          obtain ⟨gi, oi, rfl, hgi, hci⟩ := hixw.some (by omega)
          have c0 := cellI hixw.len hci hql
          cases hi : inR 0 ((vn : Int) - 1) (nth 0 ix q)
          · go_wp2
            refine region_plus (by kernel_rfl) (by kernel_rfl) ?_
            (repeat (go_big_quiet_step ((go_at_call 43; exact plus_of (in_calls _ _ _ _)))))
            refine wpQuiet_nil ?_
            rintro _ ⟨x2, rfl⟩
            go_wp2
            have hno : allOk vn ps = false := by rw [allOk, all_not (d := dPr) (k := k) (by omega) (by rw [hpe]; exact pOk_not2 (all_not (d := 0) (k := q) (by rw [hk6.len]; exact hql) hi))]
            exact bodyPost_ret (v := .tuple #[.slice none 0 0, .bool false]) (by simp [results, Try.results29, go_sem]) rfl ⟨_, _, _, by rw [hno], (by with_reducible repeat (first | exact ex_refl _ | exact ex_more | apply ex_alloc | apply ex_plus | apply ex_drew | apply ex_drewN | (apply ex_on; assumption))), by rw [allList, hno]; exact Lay.nil⟩
          · go_wp2
            refine region_plus (by kernel_rfl) (by kernel_rfl) ?_
            (repeat (go_big_quiet_step ((go_at_call 43; exact plus_of (in_calls _ _ _ _)))))
            refine wpQuiet_nil ?_
            rintro _ ⟨x2, rfl⟩
            go_wp2
            go_roundw
            case rel => exact ⟨q + 1, by omega, by go_num, upto_succ hin hi, (by with_reducible repeat (first | exact ex_refl _ | exact ex_more | apply ex_alloc | apply ex_plus | apply ex_drew | apply ex_drewN))⟩
            case measure => simp [intOf]; omega
        · have iq : ¬ (q : Int) < (n1 : Int) := by omega
          have hall : ix.all (inR 0 ((vn : Int) - 1)) = true := all_yes (d := 0) (fun j hj => hin j (by omega))
          go_wp2_with (at_builtin; refine wpList_append_lay (T := (w.alloc (.cells #[.slice va vn vc, .slice ua un uc, .slice (some ⟨g, off, none⟩) pn pc] 33))) rfl _ _ rfl kinT fV_c fV_1 rfl (by with_reducible repeat (first | exact ex_refl _ | exact ex_more | apply ex_alloc | apply ex_plus | apply ex_drew | apply ex_drewN | (apply ex_on; assumption))) (hown.ex (by with_reducible repeat (first | exact ex_refl _ | exact ex_more | apply ex_alloc | apply ex_plus | apply ex_drew | apply ex_drewN | (apply ex_on; assumption)))) rfl (hl1.ex (by with_reducible repeat (first | exact ex_refl _ | exact ex_more | apply ex_alloc | apply ex_plus | apply ex_drew | apply ex_drewN | (apply ex_on; assumption)))) (by omega) (by decide) ?_; intro ao' cap' y' hown')
          go_roundw
          case rel => exact ⟨k + 1, ao', cap', by omega, by rw [hsucc, hm1], by go_num, upto_succ hs1 (by rw [hpe]; exact pOk_yes he hall), (by with_reducible repeat (first | exact ex_refl _ | exact ex_more | apply ex_alloc | apply ex_plus | apply ex_drew | apply ex_drewN | (apply ex_on; assumption))), by rw [hsucc2, hsucc, hm1]; exact hown'⟩
          case measure => simp [intOf]; omega
    · have ik : ¬ (k : Int) < (pn : Int) := by omega
      obtain rfl : k = pn := by omega
      go_wp2
      have hok : allOk vn ps = true := all_yes (d := dPr) (fun j hj => hs1 j (by omega))
      exact bodyPost_ret (v := .tuple #[.slice ao' (trisN ps k) cap', .bool true]) (by simp [results, Try.results29, go_sem]) rfl ⟨_, _, _, by rw [hok], (by with_reducible repeat (first | exact ex_refl _ | exact ex_more | apply ex_alloc | apply ex_plus | apply ex_drew | apply ex_drewN | (apply ex_on; assumption))), by rw [allList, if_pos hok, ← hpl2, hpl1]; exact hown.lay⟩

end Go.Proofs.Ytkiahgkfgcjkgaa
