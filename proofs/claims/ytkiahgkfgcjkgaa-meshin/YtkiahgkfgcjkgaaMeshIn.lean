/- MeshIn is proved: the triangles of a mesh have corners of it alone, at most 64 of them: the call returns true for any mesh. No condition. -/
import Derived.Test.YtkiahgkfgcjkgaaMesh6
import Derived.Test.YtkiahgkfgcjkgaaMesh10
import Derived.Test.YtkiahgkfgcjkgaaOpen2
namespace Go.Proofs.Ytkiahgkfgcjkgaa
open Go.RowKit Go.ChangeShapes Go.WideShapes Go.ChangeAt
set_option linter.unusedSimpArgs false
set_option linter.unusedVariables false
attribute [local go_sem] plus_size plus_drew dn_set dn_alloc dn_plus plus_dn cell_plus frozen_plus set_plus cell_alloc frozen_alloc set_alloc

attribute [local go_sem] eqarr_34 nearr_34 larr_34

attribute [local go_sem] eqarr_50 nearr_50 larr_50

attribute [local go_sem] isnil_26

attribute [local go_sem] isnil_29

attribute [local go_sem] isnil_30

attribute [local go_sem] isnil_31

set_option maxRecDepth 100000 in
set_option maxHeartbeats 4000000 in
theorem meshIn_walk0 (va ua pa : Option Addr) (vn vc un uc pn pc : Nat) (hs : List PH) (m : Ms) (w : World) (hm : MeshAt w ⟨va, vn, vc, ua, un, uc, pa, pn, pc⟩ hs m) : Calls Try.prog 8 #[.agg #[.slice va vn vc, .slice ua un uc, .slice pa pn pc]] w fun e w' => e = .returned (.bool true) ∧ Below w.heap.size w w' := by
  have hpl : Lay fP w pa pn hs := hm.pl
  have hpp : PrimsAt w hs m.ps := hm.pp
  have hvl : Lay fV w va vn m.vs := hm.vl
  have lp := hpl.len
  have lq := hpp.len
  have lv := hvl.len
  have hz := hm.ple
  have hz2 := hm.vle
  have hz3 := hm.ule
  simp only at hz hz2 hz3
  by_cases h1 : 100 < pn
  · have i1 : (100 : Int) < (pn : Int) := by omega
    go_enter Try.func8, Try.ntmps8
    go_wp2_with (go_at_call 10; refine (plus_post (alive_calls _)).mono ?_; rintro e w' ⟨rfl, nx, rfl⟩)
    go_ret
    exact ⟨rfl, by with_reducible repeat (first | exact Below.refl _ _ | apply ba | apply bp | apply bd | apply bn)⟩
  have i1 : ¬ (100 : Int) < (pn : Int) := by omega
  by_cases h2 : 1000 < vn
  · have i2 : (1000 : Int) < (vn : Int) := by omega
    go_enter Try.func8, Try.ntmps8
    go_wp2_with (go_at_call 10; refine (plus_post (alive_calls _)).mono ?_; rintro e w' ⟨rfl, nx, rfl⟩)
    go_ret
    exact ⟨rfl, by with_reducible repeat (first | exact Below.refl _ _ | apply ba | apply bp | apply bd | apply bn)⟩
  have i2 : ¬ (1000 : Int) < (vn : Int) := by omega
  by_cases h3 : 1000 < un
  · have i3 : (1000 : Int) < (un : Int) := by omega
    go_enter Try.func8, Try.ntmps8
    go_wp2_with (go_at_call 10; refine (plus_post (alive_calls _)).mono ?_; rintro e w' ⟨rfl, nx, rfl⟩)
    go_ret
    exact ⟨rfl, by with_reducible repeat (first | exact Below.refl _ _ | apply ba | apply bp | apply bd | apply bn)⟩
  have i3 : ¬ (1000 : Int) < (un : Int) := by omega
  obtain ⟨ps, hps⟩ : ∃ ps, m.ps = ps := ⟨_, rfl⟩
  rw [hps] at hpp lq
  go_enter Try.func8, Try.ntmps8
  go_wp2_with (go_at_call 10; refine (plus_post (alive_calls _)).mono ?_; rintro e w' ⟨rfl, nx, rfl⟩)
  go_loopw [4] (fun i wr => ∃ k : Nat, k ≤ pn ∧ i = .int .i64 k ∧ ∃ x, wr = plus (w.alloc (.cells #[.slice va vn vc, .slice ua un uc, .slice pa pn pc] 33)) x) (fun i _ => pn - (intOf i).toNat)
  case atStart => exact ⟨0, Nat.zero_le _, rfl, (by with_reducible repeat (first | exact ex_refl _ | exact ex_more | apply ex_alloc | apply ex_plus | apply ex_drew | apply ex_drewN))⟩
  case round =>
    obtain ⟨k, hk, rfl, x, rfl⟩ := hrel
    by_cases hkl : k < pn
    · obtain ⟨g, off, rfl, hg, hcell⟩ := hpl.some (by omega)
      obtain ⟨d0, d1⟩ := cellP hpl.len hcell (k := k) hkl
      have hp := hpp.one k (by rw [hpl.len]; exact hkl)
      generalize hpe : nth dPr ps k = p at *
      generalize hhe : nth dPH hs k = hh at *
      obtain ⟨kind, ao1, n1, cap1⟩ := hh
      obtain ⟨kind2, ix⟩ := p
      obtain ⟨hk1, hk2, hk3, hk4, hk5, hk6⟩ := hp
      simp only at d0 d1 hk1 hk2 hk3 hk4 hk5 hk6
      subst hk1
      have ik : (k : Int) < (pn : Int) := by omega
      have hixl := hk6.len
      by_cases h4 : 1000 < n1
      · have i4 : (1000 : Int) < (n1 : Int) := by omega
        go_wp2
        go_ret
        exact ⟨rfl, by with_reducible repeat (first | exact Below.refl _ _ | apply ba | apply bp | apply bd | apply bn)⟩
      · have i4 : ¬ (1000 : Int) < (n1 : Int) := by omega
        go_wp2
        go_roundw
        case rel => exact ⟨k + 1, by omega, by go_num, (by with_reducible repeat (first | exact ex_refl _ | exact ex_more | apply ex_alloc | apply ex_plus | apply ex_drew | apply ex_drewN))⟩
        case measure => simp [intOf]; omega
    · have ik : ¬ (k : Int) < (pn : Int) := by omega
      rcases msErr_or m with he | he | he
      · go_wp2_with (go_at_call 17; refine (tris_calls _ _ _ _ _ _ _ _ _ hs m _ (hm.ex (by with_reducible repeat (first | exact ex_refl _ | exact ex_more | apply ex_alloc | apply ex_plus | apply ex_drew | apply ex_drewN | (apply ex_on; assumption))))).mono ?_; rintro e w1 ⟨ao1, m1, cap1, rfl, hw1, hl1⟩; rw [he]; have a0 : w1.cell? ⟨w.heap.size, 0, none⟩ = some (.slice va vn vc) := cell_ex hw1 (by simp [go_sem, ↓IntWalk.iteOmega]); have hz1 := cell_lt a0; rw [msList_bad (by rw [he]; decide)] at hl1; obtain rfl : m1 = 0 := hl1.len.symm)
        go_ret
        exact ⟨rfl, below_ex (by with_reducible repeat (first | exact ex_refl _ | exact ex_more | apply ex_alloc | apply ex_plus | apply ex_drew | apply ex_drewN | (apply ex_on; assumption)))⟩
      · go_wp2_with (go_at_call 17; refine (tris_calls _ _ _ _ _ _ _ _ _ hs m _ (hm.ex (by with_reducible repeat (first | exact ex_refl _ | exact ex_more | apply ex_alloc | apply ex_plus | apply ex_drew | apply ex_drewN | (apply ex_on; assumption))))).mono ?_; rintro e w1 ⟨ao1, m1, cap1, rfl, hw1, hl1⟩; rw [he]; have a0 : w1.cell? ⟨w.heap.size, 0, none⟩ = some (.slice va vn vc) := cell_ex hw1 (by simp [go_sem, ↓IntWalk.iteOmega]); have hz1 := cell_lt a0; rw [msList_bad (by rw [he]; decide)] at hl1; obtain rfl : m1 = 0 := hl1.len.symm)
        go_ret
        exact ⟨rfl, below_ex (by with_reducible repeat (first | exact ex_refl _ | exact ex_more | apply ex_alloc | apply ex_plus | apply ex_drew | apply ex_drewN | (apply ex_on; assumption)))⟩
      have hg := msErr_good he
      have hall := psOk_all (msOk_ps hg.2)
      have h64 := psOk_le (msOk_ps hg.2)
      rw [hps, lv] at hall
      rw [hps] at h64
      have hin := fun k hk => tri_in hall (k := k) hk
      obtain ⟨L, hL⟩ : ∃ L, tris ps ps.length = L := ⟨_, rfl⟩
      rw [hL] at hin
      obtain ⟨M, hM⟩ : ∃ M, trisN ps ps.length = M := ⟨_, rfl⟩
      have hML : L.length = M := by rw [← hM, ← hL]; rfl
      rw [hM] at hin h64
      have i64 : (M : Int) ≤ 64 := by omega
      go_wp2_with (go_at_call 17; refine (tris_calls _ _ _ _ _ _ _ _ _ hs m _ (hm.ex (by with_reducible repeat (first | exact ex_refl _ | exact ex_more | apply ex_alloc | apply ex_plus | apply ex_drew | apply ex_drewN | (apply ex_on; assumption))))).mono ?_; rintro e w1 ⟨ao1, m1, cap1, rfl, hw1, hl1⟩; rw [he]; have a0 : w1.cell? ⟨w.heap.size, 0, none⟩ = some (.slice va vn vc) := cell_ex hw1 (by simp [go_sem, ↓IntWalk.iteOmega]); have hz1 := cell_lt a0; rw [msList_good he, hps, hL] at hl1; obtain rfl : M = m1 := hML.symm.trans hl1.len)
      go_loopw [7] (fun i wr => ∃ k : Nat, k ≤ M ∧ i = .int .i64 k ∧ ∃ x, wr = plus w1 x) (fun i _ => M - (intOf i).toNat)
      case atStart => exact ⟨0, Nat.zero_le _, rfl, (by with_reducible repeat (first | exact ex_refl _ | exact ex_more | apply ex_alloc | apply ex_plus | apply ex_drew | apply ex_drewN))⟩
      case round =>
        obtain ⟨k, hk, rfl, x, rfl⟩ := hrel
        by_cases hkl : k < M
        · have ikm : (k : Int) < (M : Int) := by omega
          obtain ⟨g, off, rfl, hg, hcell⟩ := hl1.some (by omega)
          obtain ⟨c0, c1, c2⟩ := cellV hl1.len hcell hkl
          obtain ⟨⟨x0, x1⟩, ⟨y0, y1⟩, ⟨z0, z1⟩⟩ := hin k hkl
          clear hin
          go_wp2
          go_loopw [8] (fun i wr => ∃ c : Nat, c ≤ 3 ∧ i = .int .i64 c ∧ ∃ x, wr = plus w1 x) (fun i _ => 3 - (intOf i).toNat)
          case atStart => exact ⟨0, by decide, rfl, (by with_reducible repeat (first | exact ex_refl _ | exact ex_more | apply ex_alloc | apply ex_plus | apply ex_drew | apply ex_drewN))⟩
          case round =>
            obtain ⟨c, hc, rfl, x, rfl⟩ := hrel
            rcases (show c = 0 ∨ c = 1 ∨ c = 2 ∨ c = 3 by omega) with rfl | rfl | rfl | rfl
            · have hlo : ¬ (nth zeroV L k).x < 0 := by omega
              have hhi : ¬ (vn : Int) ≤ (nth zeroV L k).x := by omega
              have dlo := decide_eq_false hlo
              have dhi := decide_eq_false hhi
              go_wp2
              refine region_plus (by kernel_rfl) (by kernel_rfl) ?_
              (repeat (go_big_quiet_step (fail)))
              refine wpQuiet_nil ?_
              rintro _ ⟨x2, rfl⟩
              go_wp2
              go_roundw
              case rel => exact ⟨1, by decide, rfl, (by with_reducible repeat (first | exact ex_refl _ | exact ex_more | apply ex_alloc | apply ex_plus | apply ex_drew | apply ex_drewN))⟩
              case measure => simp [intOf]
            · have hlo : ¬ (nth zeroV L k).y < 0 := by omega
              have hhi : ¬ (vn : Int) ≤ (nth zeroV L k).y := by omega
              have dlo := decide_eq_false hlo
              have dhi := decide_eq_false hhi
              go_wp2
              refine region_plus (by kernel_rfl) (by kernel_rfl) ?_
              (repeat (go_big_quiet_step (fail)))
              refine wpQuiet_nil ?_
              rintro _ ⟨x2, rfl⟩
              go_wp2
              go_roundw
              case rel => exact ⟨2, by decide, rfl, (by with_reducible repeat (first | exact ex_refl _ | exact ex_more | apply ex_alloc | apply ex_plus | apply ex_drew | apply ex_drewN))⟩
              case measure => simp [intOf]
            · have hlo : ¬ (nth zeroV L k).z < 0 := by omega
              have hhi : ¬ (vn : Int) ≤ (nth zeroV L k).z := by omega
              have dlo := decide_eq_false hlo
              have dhi := decide_eq_false hhi
              go_wp2
              refine region_plus (by kernel_rfl) (by kernel_rfl) ?_
              (repeat (go_big_quiet_step (fail)))
              refine wpQuiet_nil ?_
              rintro _ ⟨x2, rfl⟩
              go_wp2
              go_roundw
              case rel => exact ⟨3, by decide, rfl, (by with_reducible repeat (first | exact ex_refl _ | exact ex_more | apply ex_alloc | apply ex_plus | apply ex_drew | apply ex_drewN))⟩
              case measure => simp [intOf]
            · go_wp2
              go_roundw
              case rel => exact ⟨k + 1, by omega, by go_num, (by with_reducible repeat (first | exact ex_refl _ | exact ex_more | apply ex_alloc | apply ex_plus | apply ex_drew | apply ex_drewN))⟩
              case measure => simp [intOf]; omega
        · have ikm : ¬ (k : Int) < (M : Int) := by omega
          go_wp2
          go_ret
          exact ⟨rfl, below_ex (by with_reducible repeat (first | exact ex_refl _ | exact ex_more | apply ex_alloc | apply ex_plus | apply ex_drew | apply ex_drewN | (apply ex_on; assumption)))⟩

theorem meshIn_walk (h : MH) (hs : List PH) (m : Ms) (w : World) (hm : MeshAt w h hs m) : Calls Try.prog 8 #[fM h] w fun e w' => e = .returned (.bool true) ∧ Below w.heap.size w w' := by
  obtain ⟨va, vn, vc, ua, un, uc, pa, pn, pc⟩ := h
  exact meshIn_walk0 va ua pa vn vc un uc pn pc hs m w hm

set_option maxRecDepth 100000 in
theorem meshIn_lifted (os : Os) (started : os.Started) (H : Type) (enc : TypeId × Value → H) :
    ReturnsInHanded {} Try.checked os 8 .any (Rows.meshInSpec.pre6 enc Try.prog Try.f8 Rows.meshInRow.domain false) (Rows.meshInSpec.post enc Try.prog Try.f8 false true false false) := by
  refine returnsInHanded_of_change (C := Try.checked) own started (by kernel_rfl) Try.func8
    (ChangeSpec.witness6 (enc := enc) (C := Try.checked) false ⟨#[], #[.agg #[.slice none 0 0, .slice none 0 0, .slice none 0 0]], []⟩ 8 (by kernel_rfl) (by kernel_rfl) (by kernel_rfl) (by kernel_rfl)) ?_
  intro W base args ds gs before hval0 hW hcnd _
  have hval : ∀ (j : Nat) t v, Try.f8.params[j]? = some t → args[j]? = some v → Value.okWide Try.prog W .any base t v := hval0
  have hW' := hW
  obtain ⟨p, q, hA0, hV, rfl, hfz, hnd⟩ := hW
  have hA : DataW.TrodAll enc Try.prog W 0 (fun _ => true) true Try.f8.params.toList args.toList ds p := hA0
  rw [Try.params8] at hA hval
  obtain ⟨v0, vs0, d0, ds0, p0, q0, hargs, rfl, rfl, h0, r0⟩ := trodAll_cons hA
  obtain ⟨rfl, rfl, rfl⟩ := trodAll_nil r0
  obtain rfl : args = #[v0] := by cases args; simp_all
  obtain ⟨mh0, hs0, m0, rfl, hm0⟩ := open_mesh Try.underlying33 (by kernel_rfl) (by kernel_rfl) Try.underlying29 Try.underlying30 Try.underlying31 (by kernel_rfl) (by kernel_rfl) (by kernel_rfl) (by kernel_rfl) (by kernel_rfl) Try.underlying28 (by kernel_rfl) Try.underlying5 Try.underlying26 (by kernel_rfl) (by kernel_rfl) (hval 0 33 v0 rfl rfl) h0
  refine (meshIn_walk mh0 hs0 m0  W hm0).mono fun e W' ⟨he, hb⟩ => ?_
  exact ⟨_, he, law_post laidOut Try.underlying4 rfl (by kernel_rfl) (by kernel_rfl) (fun ds h => match ds, h with | [_], _ => rfl) hW' hb⟩

theorem meshIn_holds : Rows.MeshInSaid :=
  OpenClaim.holds_of_wide 8 Try.f8 rfl rfl rfl rfl rfl rfl rfl ⟨rfl, rfl, rfl, rfl, rfl⟩ rfl rfl rfl rfl rfl (by kernel_rfl) Try.func8 (by kernel_rfl)
    (of_decide_eq_true (by kernel_rfl)) (by unfold Func.isWrapper; first | (rw [if_pos (by decide +kernel)]; kernel_rfl) | (rw [if_neg (by decide +kernel)]; exact ⟨rfl, rfl⟩))
    (fun os started H enc _ => meshIn_lifted os started H enc)
#print axioms meshIn_holds
end Go.Proofs.Ytkiahgkfgcjkgaa
