/- What dioramaref04.May, Check and Tris give. -/
import Derived.Test.YtkiahgkfgcjkgaaMesh11
namespace Go.Proofs.Ytkiahgkfgcjkgaa
open Go.RowKit Go.ChangeShapes Go.WideShapes Go.ChangeAt
set_option linter.unusedSimpArgs false
set_option linter.unusedVariables false
attribute [local go_sem] plus_size plus_drew dn_set dn_alloc dn_plus plus_dn cell_plus frozen_plus set_plus cell_alloc frozen_alloc set_alloc

attribute [local go_sem] eqarr_34 nearr_34 larr_34

attribute [local go_sem] eqarr_50 nearr_50 larr_50

attribute [local go_sem] isnil_26

attribute [local go_sem] isnil_29

attribute [local go_sem] isnil_30

attribute [local go_sem] isnil_31

theorem vOk_yes {v : V3} (h1 : inR (-1024) 1024 v.x = true) (h2 : inR (-1024) 1024 v.y = true) (h3 : inR (-1024) 1024 v.z = true) : vOk v = true := by simp [vOk, h1, h2, h3]
theorem uOk_yes {v : Int × Int} (h1 : inR 0 255 v.1 = true) (h2 : inR 0 255 v.2 = true) : uOk v = true := by simp [uOk, h1, h2]

set_option maxRecDepth 100000 in
set_option maxHeartbeats 4000000 in
theorem may_calls (va ua pa : Option Addr) (vn vc un uc pn pc : Nat) (hs : List PH) (m : Ms) (w : World) (hm : MeshAt w ⟨va, vn, vc, ua, un, uc, pa, pn, pc⟩ hs m) (hvn : vn ≤ 64) (hpn : pn ≤ 16) :
    Calls Try.prog 34 #[.agg #[.slice va vn vc, .slice ua un uc, .slice pa pn pc]] w fun e w' => e = .returned (.bool (msOk m)) ∧ Below w.heap.size w w' := by
  have hvl : Lay fV w va vn m.vs := hm.vl
  have hul : Lay f2 w ua un m.uv := hm.ul
  have hpl : Lay fP w pa pn hs := hm.pl
  have hpp : PrimsAt w hs m.ps := hm.pp
  have lv := hvl.len
  have lu := hul.len
  have lp := hpl.len
  have lq := hpp.len
  have hun := hm.ule
  simp only at hun
  by_cases he : un = vn
  rotate_left
  · rw [show msOk m = false by (have : ¬ m.uv.length = m.vs.length := by omega); simp [msOk, this]]
    have ie : ¬ (un : Int) = (vn : Int) := by omega
    have de : ((un : Int) == (vn : Int)) = false := by rw [beq_eq_false_iff_ne]; omega
    go_enter Try.func34, Try.ntmps34
    go_wp2
    go_ret
    exact ⟨rfl, by with_reducible repeat (first | exact Below.refl _ _ | apply ba | apply bp | apply bd | apply bn)⟩
  subst he
  go_enter Try.func34, Try.ntmps34
  go_wp2
  go_loopw [3] (fun i wr => ∃ k : Nat, k ≤ un ∧ i = .int .i64 k ∧ (∀ j, j < k → vOk (nth zeroV m.vs j) = true) ∧ (∀ j, j < k → uOk (nth (0, 0) m.uv j) = true) ∧ ∃ x, wr = plus (w.alloc (.cells #[.slice va un vc, .slice ua un uc, .slice pa pn pc] 33)) x) (fun i _ => un - (intOf i).toNat)
  case atStart => exact ⟨0, Nat.zero_le _, rfl, fun j hj => by omega, fun j hj => by omega, (by with_reducible repeat (first | exact ex_refl _ | exact ex_more | apply ex_alloc | apply ex_plus | apply ex_drew | apply ex_drewN))⟩
  case round =>
    obtain ⟨k, hk, rfl, hs1, hs2, x, rfl⟩ := hrel
    by_cases hkl : k < un
    · obtain ⟨g, off, rfl, hg, hcell⟩ := hvl.some (by omega)
      obtain ⟨g2, off2, rfl, hg2, hcell2⟩ := hul.some (by omega)
      obtain ⟨c0, c1, c2⟩ := cellV hvl.len hcell hkl
      obtain ⟨d0, d1⟩ := cell2 hul.len hcell2 hkl
      have ik : (k : Int) < (un : Int) := by omega
      cases h1 : inR (-1024) 1024 (nth zeroV m.vs k).x
      · have hA : m.vs.all vOk = false := all_not (d := zeroV) (k := k) (by omega) (by simp [vOk, h1])
        have hno : msOk m = false := by rw [msOk, hA, Bool.false_and, Bool.false_and, Bool.false_and]
        go_wp2_with (go_at_call 43; refine (plus_post (in_calls _ _ _ _)).mono ?_; rintro e w' ⟨rfl, nx, rfl⟩)
        go_ret
        exact ⟨by rw [hno]; rfl, by with_reducible repeat (first | exact Below.refl _ _ | apply ba | apply bp | apply bd | apply bn)⟩
      cases h2 : inR (-1024) 1024 (nth zeroV m.vs k).y
      · have hA : m.vs.all vOk = false := all_not (d := zeroV) (k := k) (by omega) (by simp [vOk, h2])
        have hno : msOk m = false := by rw [msOk, hA, Bool.false_and, Bool.false_and, Bool.false_and]
        go_wp2_with (go_at_call 43; refine (plus_post (in_calls _ _ _ _)).mono ?_; rintro e w' ⟨rfl, nx, rfl⟩)
        go_ret
        exact ⟨by rw [hno]; rfl, by with_reducible repeat (first | exact Below.refl _ _ | apply ba | apply bp | apply bd | apply bn)⟩
      cases h3 : inR (-1024) 1024 (nth zeroV m.vs k).z
      · have hA : m.vs.all vOk = false := all_not (d := zeroV) (k := k) (by omega) (by simp [vOk, h3])
        have hno : msOk m = false := by rw [msOk, hA, Bool.false_and, Bool.false_and, Bool.false_and]
        go_wp2_with (go_at_call 43; refine (plus_post (in_calls _ _ _ _)).mono ?_; rintro e w' ⟨rfl, nx, rfl⟩)
        go_ret
        exact ⟨by rw [hno]; rfl, by with_reducible repeat (first | exact Below.refl _ _ | apply ba | apply bp | apply bd | apply bn)⟩
      cases h4 : inR (0) 255 (nth (0, 0) m.uv k).1
      · have hA : m.uv.all uOk = false := all_not (d := (0, 0)) (k := k) (by omega) (by simp [uOk, h4])
        have hno : msOk m = false := by rw [msOk, hA, Bool.and_false, Bool.false_and]
        go_wp2_with (go_at_call 43; refine (plus_post (in_calls _ _ _ _)).mono ?_; rintro e w' ⟨rfl, nx, rfl⟩)
        go_ret
        exact ⟨by rw [hno]; rfl, by with_reducible repeat (first | exact Below.refl _ _ | apply ba | apply bp | apply bd | apply bn)⟩
      cases h5 : inR (0) 255 (nth (0, 0) m.uv k).2
      · have hA : m.uv.all uOk = false := all_not (d := (0, 0)) (k := k) (by omega) (by simp [uOk, h5])
        have hno : msOk m = false := by rw [msOk, hA, Bool.and_false, Bool.false_and]
        go_wp2_with (go_at_call 43; refine (plus_post (in_calls _ _ _ _)).mono ?_; rintro e w' ⟨rfl, nx, rfl⟩)
        go_ret
        exact ⟨by rw [hno]; rfl, by with_reducible repeat (first | exact Below.refl _ _ | apply ba | apply bp | apply bd | apply bn)⟩
      go_wp2_with (go_at_call 43; refine (plus_post (in_calls _ _ _ _)).mono ?_; rintro e w' ⟨rfl, nx, rfl⟩)
      go_roundw
      case rel => exact ⟨k + 1, by omega, by go_num, upto_succ hs1 (vOk_yes h1 h2 h3), upto_succ hs2 (uOk_yes h4 h5), (by with_reducible repeat (first | exact ex_refl _ | exact ex_more | apply ex_alloc | apply ex_plus | apply ex_drew | apply ex_drewN))⟩
      case measure => simp [intOf]; omega
    · have ik : ¬ (k : Int) < (un : Int) := by omega
      have hv : m.vs.all vOk = true := all_yes (d := zeroV) (fun j hj => hs1 j (by omega))
      have hu : m.uv.all uOk = true := all_yes (d := (0, 0)) (fun j hj => hs2 j (by omega))
      cases ha : allOk un m.ps
      · have hno : msOk m = false := by
          have : psOk m.vs.length m.ps = false := by rw [lv, psOk, show m.ps.all (pOk un) = false from ha, Bool.false_and]
          rw [msOk, this, Bool.and_false]
        go_wp2_with (go_at_call 29; refine (all_calls _ _ _ _ _ _ _ _ _ hs m.ps _ (hpl.ex (by with_reducible repeat (first | exact ex_refl _ | exact ex_more | apply ex_alloc | apply ex_plus | apply ex_drew | apply ex_drewN | (apply ex_on; assumption)))) (hpp.ex (by with_reducible repeat (first | exact ex_refl _ | exact ex_more | apply ex_alloc | apply ex_plus | apply ex_drew | apply ex_drewN | (apply ex_on; assumption)))) (by omega) (by omega)).mono ?_; rintro e w1 ⟨ao1, m1, cap1, rfl, hw1, hl1⟩; rw [ha])
        go_ret
        exact ⟨by rw [hno]; rfl, below_ex (by with_reducible repeat (first | exact ex_refl _ | exact ex_more | apply ex_alloc | apply ex_plus | apply ex_drew | apply ex_drewN | (apply ex_on; assumption)))⟩
      · have hms : msOk m = decide (trisN m.ps m.ps.length ≤ 64) := by rw [msOk, hv, hu, lu, lv, psOk, show m.ps.all (pOk un) = true from ha]; simp
        obtain ⟨M, hM⟩ : ∃ M, trisN m.ps m.ps.length = M := ⟨_, rfl⟩
        have hML : (tris m.ps m.ps.length).length = M := hM
        rw [hM] at hms
        by_cases h64 : M ≤ 64
        · have i64 : (M : Int) ≤ 64 := by omega
          go_wp2_with (go_at_call 29; refine (all_calls _ _ _ _ _ _ _ _ _ hs m.ps _ (hpl.ex (by with_reducible repeat (first | exact ex_refl _ | exact ex_more | apply ex_alloc | apply ex_plus | apply ex_drew | apply ex_drewN | (apply ex_on; assumption)))) (hpp.ex (by with_reducible repeat (first | exact ex_refl _ | exact ex_more | apply ex_alloc | apply ex_plus | apply ex_drew | apply ex_drewN | (apply ex_on; assumption)))) (by omega) (by omega)).mono ?_; rintro e w1 ⟨ao1, m1, cap1, rfl, hw1, hl1⟩; rw [ha]; rw [allList, if_pos ha] at hl1; obtain rfl : M = m1 := hML.symm.trans hl1.len)
          go_ret
          exact ⟨by rw [hms, decide_eq_true h64]; rfl, below_ex (by with_reducible repeat (first | exact ex_refl _ | exact ex_more | apply ex_alloc | apply ex_plus | apply ex_drew | apply ex_drewN | (apply ex_on; assumption)))⟩
        · have i64 : ¬ (M : Int) ≤ 64 := by omega
          have d64 := decide_eq_false i64
          go_wp2_with (go_at_call 29; refine (all_calls _ _ _ _ _ _ _ _ _ hs m.ps _ (hpl.ex (by with_reducible repeat (first | exact ex_refl _ | exact ex_more | apply ex_alloc | apply ex_plus | apply ex_drew | apply ex_drewN | (apply ex_on; assumption)))) (hpp.ex (by with_reducible repeat (first | exact ex_refl _ | exact ex_more | apply ex_alloc | apply ex_plus | apply ex_drew | apply ex_drewN | (apply ex_on; assumption)))) (by omega) (by omega)).mono ?_; rintro e w1 ⟨ao1, m1, cap1, rfl, hw1, hl1⟩; rw [ha]; rw [allList, if_pos ha] at hl1; obtain rfl : M = m1 := hML.symm.trans hl1.len)
          go_ret
          exact ⟨by rw [hms, decide_eq_false h64]; rfl, below_ex (by with_reducible repeat (first | exact ex_refl _ | exact ex_more | apply ex_alloc | apply ex_plus | apply ex_drew | apply ex_drewN | (apply ex_on; assumption)))⟩

set_option maxHeartbeats 4000000 in
theorem rcheck_calls (va ua pa : Option Addr) (vn vc un uc pn pc : Nat) (hs : List PH) (m : Ms) (w : World) (hm : MeshAt w ⟨va, vn, vc, ua, un, uc, pa, pn, pc⟩ hs m) :
    Calls Try.prog 20 #[.agg #[.slice va vn vc, .slice ua un uc, .slice pa pn pc]] w fun e w' => e = .returned (.int .i64 (msErr m)) ∧ Below w.heap.size w w' := by
  have hvl : Lay fV w va vn m.vs := hm.vl
  have hul : Lay f2 w ua un m.uv := hm.ul
  have hpl : Lay fP w pa pn hs := hm.pl
  have hpp : PrimsAt w hs m.ps := hm.pp
  have lv := hvl.len
  have lu := hul.len
  have lp := hpl.len
  have lq := hpp.len
  by_cases h1 : 64 < vn
  · rw [show msErr m = 4 from if_pos (.inl (by omega))]
    have i1 : (64 : Int) < (vn : Int) := by omega
    go_enter Try.func20, Try.ntmps20
    go_wp2_with (go_at_call 34; refine (plus_post (may_calls _ _ _ _ _ _ _ _ _ hs m _ (hm.ex (by with_reducible repeat (first | exact ex_refl _ | exact ex_more | apply ex_alloc | apply ex_plus | apply ex_drew | apply ex_drewN))) (by omega) (by omega))).mono ?_; rintro e w' ⟨rfl, nx, rfl⟩; rw [ho])
    go_ret
    exact ⟨rfl, by with_reducible repeat (first | exact Below.refl _ _ | apply ba | apply bp | apply bd | apply bn)⟩
  have i1 : ¬ (64 : Int) < (vn : Int) := by omega
  by_cases h2 : 64 < un
  · rw [show msErr m = 4 from if_pos (.inr (.inl (by omega)))]
    have i2 : (64 : Int) < (un : Int) := by omega
    go_enter Try.func20, Try.ntmps20
    go_wp2_with (go_at_call 34; refine (plus_post (may_calls _ _ _ _ _ _ _ _ _ hs m _ (hm.ex (by with_reducible repeat (first | exact ex_refl _ | exact ex_more | apply ex_alloc | apply ex_plus | apply ex_drew | apply ex_drewN))) (by omega) (by omega))).mono ?_; rintro e w' ⟨rfl, nx, rfl⟩; rw [ho])
    go_ret
    exact ⟨rfl, by with_reducible repeat (first | exact Below.refl _ _ | apply ba | apply bp | apply bd | apply bn)⟩
  have i2 : ¬ (64 : Int) < (un : Int) := by omega
  by_cases h3 : 16 < pn
  · rw [show msErr m = 4 from if_pos (.inr (.inr (by omega)))]
    have i3 : (16 : Int) < (pn : Int) := by omega
    go_enter Try.func20, Try.ntmps20
    go_wp2_with (go_at_call 34; refine (plus_post (may_calls _ _ _ _ _ _ _ _ _ hs m _ (hm.ex (by with_reducible repeat (first | exact ex_refl _ | exact ex_more | apply ex_alloc | apply ex_plus | apply ex_drew | apply ex_drewN))) (by omega) (by omega))).mono ?_; rintro e w' ⟨rfl, nx, rfl⟩; rw [ho])
    go_ret
    exact ⟨rfl, by with_reducible repeat (first | exact Below.refl _ _ | apply ba | apply bp | apply bd | apply bn)⟩
  have i3 : ¬ (16 : Int) < (pn : Int) := by omega
  have hM : ¬ (64 < m.vs.length ∨ 64 < m.uv.length ∨ 16 < m.ps.length) := by omega
  rw [msErr, if_neg hM]
  cases ho : msOk m
  · rw [if_neg (by decide)]
    go_enter Try.func20, Try.ntmps20
    go_wp2_with (go_at_call 34; refine (plus_post (may_calls _ _ _ _ _ _ _ _ _ hs m _ (hm.ex (by with_reducible repeat (first | exact ex_refl _ | exact ex_more | apply ex_alloc | apply ex_plus | apply ex_drew | apply ex_drewN))) (by omega) (by omega))).mono ?_; rintro e w' ⟨rfl, nx, rfl⟩; rw [ho])
    go_ret
    exact ⟨rfl, by with_reducible repeat (first | exact Below.refl _ _ | apply ba | apply bp | apply bd | apply bn)⟩
  rw [if_pos rfl]
  go_enter Try.func20, Try.ntmps20
  go_wp2_with (go_at_call 34; refine (plus_post (may_calls _ _ _ _ _ _ _ _ _ hs m _ (hm.ex (by with_reducible repeat (first | exact ex_refl _ | exact ex_more | apply ex_alloc | apply ex_plus | apply ex_drew | apply ex_drewN))) (by omega) (by omega))).mono ?_; rintro e w' ⟨rfl, nx, rfl⟩; rw [ho])
  go_ret
  exact ⟨rfl, by with_reducible repeat (first | exact Below.refl _ _ | apply ba | apply bp | apply bd | apply bn)⟩

set_option maxHeartbeats 4000000 in
theorem rtris_calls (va ua pa : Option Addr) (vn vc un uc pn pc : Nat) (hs : List PH) (m : Ms) (w : World) (hm : MeshAt w ⟨va, vn, vc, ua, un, uc, pa, pn, pc⟩ hs m) :
    Calls Try.prog 18 #[.agg #[.slice va vn vc, .slice ua un uc, .slice pa pn pc]] w fun e w' => RetT fV w (msList m) (.int .i64 (msErr m)) e w' := by
  have hpl : Lay fP w pa pn hs := hm.pl
  have hpp : PrimsAt w hs m.ps := hm.pp
  have hvl : Lay fV w va vn m.vs := hm.vl
  have lp := hpl.len
  have lq := hpp.len
  have lv := hvl.len
  rcases msErr_or m with he | he | he
  · rw [he]
    go_enter Try.func18, Try.ntmps18
    go_wp2_with (go_at_call 20; refine (plus_post (rcheck_calls _ _ _ _ _ _ _ _ _ hs m _ (hm.ex (by with_reducible repeat (first | exact ex_refl _ | exact ex_more | apply ex_alloc | apply ex_plus | apply ex_drew | apply ex_drewN))))).mono ?_; rintro e w' ⟨rfl, nx, rfl⟩; rw [he])
    exact bodyPost_ret (v := .tuple #[.slice none 0 0, .int .i64 4]) (by simp [results, Try.results18, go_sem]) rfl ⟨_, _, _, rfl, (by with_reducible repeat (first | exact ex_refl _ | exact ex_more | apply ex_alloc | apply ex_plus | apply ex_drew | apply ex_drewN)), by rw [msList_bad (by rw [he]; decide)]; exact Lay.nil⟩
  · rw [he]
    go_enter Try.func18, Try.ntmps18
    go_wp2_with (go_at_call 20; refine (plus_post (rcheck_calls _ _ _ _ _ _ _ _ _ hs m _ (hm.ex (by with_reducible repeat (first | exact ex_refl _ | exact ex_more | apply ex_alloc | apply ex_plus | apply ex_drew | apply ex_drewN))))).mono ?_; rintro e w' ⟨rfl, nx, rfl⟩; rw [he])
    exact bodyPost_ret (v := .tuple #[.slice none 0 0, .int .i64 40]) (by simp [results, Try.results18, go_sem]) rfl ⟨_, _, _, rfl, (by with_reducible repeat (first | exact ex_refl _ | exact ex_more | apply ex_alloc | apply ex_plus | apply ex_drew | apply ex_drewN)), by rw [msList_bad (by rw [he]; decide)]; exact Lay.nil⟩
  have hg := msErr_good he
  have hmany := hg.1
  unfold msMany at hmany
  have hps := msOk_ps hg.2
  rw [lv] at hps
  have ha : allOk vn m.ps = true := by
    simp only [psOk, Bool.and_eq_true] at hps
    exact hps.1
  rw [he]
  go_enter Try.func18, Try.ntmps18
  go_wp2_with (first | (go_at_call 20; refine (plus_post (rcheck_calls _ _ _ _ _ _ _ _ _ hs m _ (hm.ex (by with_reducible repeat (first | exact ex_refl _ | exact ex_more | apply ex_alloc | apply ex_plus | apply ex_drew | apply ex_drewN))))).mono ?_; rintro e w' ⟨rfl, nx, rfl⟩; rw [he]) | (go_at_call 29; refine (all_calls _ _ _ _ _ _ _ _ _ hs m.ps _ (hpl.ex (by with_reducible repeat (first | exact ex_refl _ | exact ex_more | apply ex_alloc | apply ex_plus | apply ex_drew | apply ex_drewN | (apply ex_on; assumption)))) (hpp.ex (by with_reducible repeat (first | exact ex_refl _ | exact ex_more | apply ex_alloc | apply ex_plus | apply ex_drew | apply ex_drewN | (apply ex_on; assumption)))) (by omega) (by omega)).mono ?_; rintro e w1 ⟨ao1, m1, cap1, rfl, hw1, hl1⟩; rw [ha]; rw [allList, if_pos ha] at hl1))
  exact bodyPost_ret (v := .tuple #[.slice ao1 m1 cap1, .int .i64 0]) (by simp [results, Try.results18, go_sem]) rfl ⟨_, _, _, rfl, (by with_reducible repeat (first | exact ex_refl _ | exact ex_more | apply ex_alloc | apply ex_plus | apply ex_drew | apply ex_drewN | (apply ex_on; assumption))), by rw [msList_good he]; exact hl1⟩

end Go.Proofs.Ytkiahgkfgcjkgaa
