/- What mesh.Same and dioramaref04.Same give. -/
import Derived.Test.YtkiahgkfgcjkgaaMesh13
namespace Go.Proofs.Ytkiahgkfgcjkgaa
open Go.RowKit Go.ChangeShapes Go.WideShapes Go.ChangeAt
set_option linter.unusedSimpArgs false
set_option linter.unusedVariables false
attribute [local go_sem] plus_size plus_drew dn_set dn_alloc dn_plus plus_dn cell_plus frozen_plus set_plus cell_alloc frozen_alloc set_alloc

attribute [local go_sem] eqarr_34 nearr_34 larr_34

attribute [local go_sem] eqarr_50 nearr_50 larr_50

attribute [local go_sem] isnil_26

attribute [local go_sem] isnil_29

attribute [local go_sem] isnil_30

attribute [local go_sem] isnil_31

set_option maxHeartbeats 4000000 in
theorem same_calls (va ua pa : Option Addr) (vn vc un uc pn pc : Nat) (hs : List PH) (xa ya za : Option Addr) (xn xc yn yc zn zc : Nat) (gs : List PH) (m o : Ms) (w : World) (hm : MeshAt w ⟨va, vn, vc, ua, un, uc, pa, pn, pc⟩ hs m) (hm2 : MeshAt w ⟨xa, xn, xc, ya, yn, yc, za, zn, zc⟩ gs o) (hf : Few hs) (hg : Few gs) (s1 : vn ≤ 1000) (s2 : un ≤ 1000) (s3 : pn ≤ 100) (s4 : xn ≤ 1000) (s5 : yn ≤ 1000) (s6 : zn ≤ 100) :
    Calls Try.prog 21 #[.agg #[.slice va vn vc, .slice ua un uc, .slice pa pn pc], .agg #[.slice xa xn xc, .slice ya yn yc, .slice za zn zc]] w fun e w' => e = .returned (.bool (sameMs m o)) ∧ Below w.heap.size w w' := by
  have hvl : Lay fV w va vn m.vs := hm.vl
  have hul : Lay f2 w ua un m.uv := hm.ul
  have hpl : Lay fP w pa pn hs := hm.pl
  have hpp : PrimsAt w hs m.ps := hm.pp
  have hxl : Lay fV w xa xn o.vs := hm2.vl
  have hyl : Lay f2 w ya yn o.uv := hm2.ul
  have hql : Lay fP w za zn gs := hm2.pl
  have hqq : PrimsAt w gs o.ps := hm2.pp
  have lv := hvl.len
  have lu := hul.len
  have lp := hpl.len
  have lpp := hpp.len
  have lx := hxl.len
  have ly := hyl.len
  have lq := hql.len
  have lqq := hqq.len
  cases h1 : sameV m.vs o.vs
  · rw [show sameMs m o = false by rw [sameMs, h1, Bool.false_and, Bool.false_and]]
    go_enter Try.func21, Try.ntmps21
    go_wp2_with (first | (go_at_call 35; refine (plus_post (equalV_calls _ _ _ _ _ _ m.vs o.vs _ (hvl.ex (by with_reducible repeat (first | exact ex_refl _ | exact ex_more | apply ex_alloc | apply ex_plus | apply ex_drew | apply ex_drewN))) (hxl.ex (by with_reducible repeat (first | exact ex_refl _ | exact ex_more | apply ex_alloc | apply ex_plus | apply ex_drew | apply ex_drewN))) (by omega) (by omega))).mono ?_; rintro e w' ⟨rfl, nx, rfl⟩; rw [h1]) | (go_at_call 36; refine (plus_post (equal2_calls _ _ _ _ _ _ m.uv o.uv _ (hul.ex (by with_reducible repeat (first | exact ex_refl _ | exact ex_more | apply ex_alloc | apply ex_plus | apply ex_drew | apply ex_drewN))) (hyl.ex (by with_reducible repeat (first | exact ex_refl _ | exact ex_more | apply ex_alloc | apply ex_plus | apply ex_drew | apply ex_drewN))) (by omega) (by omega))).mono ?_; rintro e w' ⟨rfl, nx, rfl⟩; rw [h2]) | (go_at_call 37; refine (plus_post (equalFunc_calls _ _ _ _ _ _ hs gs m.ps o.ps _ (hpl.ex (by with_reducible repeat (first | exact ex_refl _ | exact ex_more | apply ex_alloc | apply ex_plus | apply ex_drew | apply ex_drewN))) (hql.ex (by with_reducible repeat (first | exact ex_refl _ | exact ex_more | apply ex_alloc | apply ex_plus | apply ex_drew | apply ex_drewN))) (hpp.ex (by with_reducible repeat (first | exact ex_refl _ | exact ex_more | apply ex_alloc | apply ex_plus | apply ex_drew | apply ex_drewN))) (hqq.ex (by with_reducible repeat (first | exact ex_refl _ | exact ex_more | apply ex_alloc | apply ex_plus | apply ex_drew | apply ex_drewN))) hf hg (by omega) (by omega))).mono ?_; rintro e w' ⟨rfl, nx, rfl⟩; rw [h3]))
    go_ret
    exact ⟨rfl, by with_reducible repeat (first | exact Below.refl _ _ | apply ba | apply bp | apply bd | apply bn)⟩
  cases h2 : same2 m.uv o.uv
  · rw [show sameMs m o = false by rw [sameMs, h2, Bool.and_false, Bool.false_and]]
    go_enter Try.func21, Try.ntmps21
    go_wp2_with (first | (go_at_call 35; refine (plus_post (equalV_calls _ _ _ _ _ _ m.vs o.vs _ (hvl.ex (by with_reducible repeat (first | exact ex_refl _ | exact ex_more | apply ex_alloc | apply ex_plus | apply ex_drew | apply ex_drewN))) (hxl.ex (by with_reducible repeat (first | exact ex_refl _ | exact ex_more | apply ex_alloc | apply ex_plus | apply ex_drew | apply ex_drewN))) (by omega) (by omega))).mono ?_; rintro e w' ⟨rfl, nx, rfl⟩; rw [h1]) | (go_at_call 36; refine (plus_post (equal2_calls _ _ _ _ _ _ m.uv o.uv _ (hul.ex (by with_reducible repeat (first | exact ex_refl _ | exact ex_more | apply ex_alloc | apply ex_plus | apply ex_drew | apply ex_drewN))) (hyl.ex (by with_reducible repeat (first | exact ex_refl _ | exact ex_more | apply ex_alloc | apply ex_plus | apply ex_drew | apply ex_drewN))) (by omega) (by omega))).mono ?_; rintro e w' ⟨rfl, nx, rfl⟩; rw [h2]) | (go_at_call 37; refine (plus_post (equalFunc_calls _ _ _ _ _ _ hs gs m.ps o.ps _ (hpl.ex (by with_reducible repeat (first | exact ex_refl _ | exact ex_more | apply ex_alloc | apply ex_plus | apply ex_drew | apply ex_drewN))) (hql.ex (by with_reducible repeat (first | exact ex_refl _ | exact ex_more | apply ex_alloc | apply ex_plus | apply ex_drew | apply ex_drewN))) (hpp.ex (by with_reducible repeat (first | exact ex_refl _ | exact ex_more | apply ex_alloc | apply ex_plus | apply ex_drew | apply ex_drewN))) (hqq.ex (by with_reducible repeat (first | exact ex_refl _ | exact ex_more | apply ex_alloc | apply ex_plus | apply ex_drew | apply ex_drewN))) hf hg (by omega) (by omega))).mono ?_; rintro e w' ⟨rfl, nx, rfl⟩; rw [h3]))
    go_ret
    exact ⟨rfl, by with_reducible repeat (first | exact Below.refl _ _ | apply ba | apply bp | apply bd | apply bn)⟩
  cases h3 : samePs m.ps o.ps
  · rw [show sameMs m o = false by rw [sameMs, h3, Bool.and_false]]
    go_enter Try.func21, Try.ntmps21
    go_wp2_with (first | (go_at_call 35; refine (plus_post (equalV_calls _ _ _ _ _ _ m.vs o.vs _ (hvl.ex (by with_reducible repeat (first | exact ex_refl _ | exact ex_more | apply ex_alloc | apply ex_plus | apply ex_drew | apply ex_drewN))) (hxl.ex (by with_reducible repeat (first | exact ex_refl _ | exact ex_more | apply ex_alloc | apply ex_plus | apply ex_drew | apply ex_drewN))) (by omega) (by omega))).mono ?_; rintro e w' ⟨rfl, nx, rfl⟩; rw [h1]) | (go_at_call 36; refine (plus_post (equal2_calls _ _ _ _ _ _ m.uv o.uv _ (hul.ex (by with_reducible repeat (first | exact ex_refl _ | exact ex_more | apply ex_alloc | apply ex_plus | apply ex_drew | apply ex_drewN))) (hyl.ex (by with_reducible repeat (first | exact ex_refl _ | exact ex_more | apply ex_alloc | apply ex_plus | apply ex_drew | apply ex_drewN))) (by omega) (by omega))).mono ?_; rintro e w' ⟨rfl, nx, rfl⟩; rw [h2]) | (go_at_call 37; refine (plus_post (equalFunc_calls _ _ _ _ _ _ hs gs m.ps o.ps _ (hpl.ex (by with_reducible repeat (first | exact ex_refl _ | exact ex_more | apply ex_alloc | apply ex_plus | apply ex_drew | apply ex_drewN))) (hql.ex (by with_reducible repeat (first | exact ex_refl _ | exact ex_more | apply ex_alloc | apply ex_plus | apply ex_drew | apply ex_drewN))) (hpp.ex (by with_reducible repeat (first | exact ex_refl _ | exact ex_more | apply ex_alloc | apply ex_plus | apply ex_drew | apply ex_drewN))) (hqq.ex (by with_reducible repeat (first | exact ex_refl _ | exact ex_more | apply ex_alloc | apply ex_plus | apply ex_drew | apply ex_drewN))) hf hg (by omega) (by omega))).mono ?_; rintro e w' ⟨rfl, nx, rfl⟩; rw [h3]))
    go_ret
    exact ⟨rfl, by with_reducible repeat (first | exact Below.refl _ _ | apply ba | apply bp | apply bd | apply bn)⟩
  · rw [show sameMs m o = true by rw [sameMs, h1, h2, h3]; rfl]
    go_enter Try.func21, Try.ntmps21
    go_wp2_with (first | (go_at_call 35; refine (plus_post (equalV_calls _ _ _ _ _ _ m.vs o.vs _ (hvl.ex (by with_reducible repeat (first | exact ex_refl _ | exact ex_more | apply ex_alloc | apply ex_plus | apply ex_drew | apply ex_drewN))) (hxl.ex (by with_reducible repeat (first | exact ex_refl _ | exact ex_more | apply ex_alloc | apply ex_plus | apply ex_drew | apply ex_drewN))) (by omega) (by omega))).mono ?_; rintro e w' ⟨rfl, nx, rfl⟩; rw [h1]) | (go_at_call 36; refine (plus_post (equal2_calls _ _ _ _ _ _ m.uv o.uv _ (hul.ex (by with_reducible repeat (first | exact ex_refl _ | exact ex_more | apply ex_alloc | apply ex_plus | apply ex_drew | apply ex_drewN))) (hyl.ex (by with_reducible repeat (first | exact ex_refl _ | exact ex_more | apply ex_alloc | apply ex_plus | apply ex_drew | apply ex_drewN))) (by omega) (by omega))).mono ?_; rintro e w' ⟨rfl, nx, rfl⟩; rw [h2]) | (go_at_call 37; refine (plus_post (equalFunc_calls _ _ _ _ _ _ hs gs m.ps o.ps _ (hpl.ex (by with_reducible repeat (first | exact ex_refl _ | exact ex_more | apply ex_alloc | apply ex_plus | apply ex_drew | apply ex_drewN))) (hql.ex (by with_reducible repeat (first | exact ex_refl _ | exact ex_more | apply ex_alloc | apply ex_plus | apply ex_drew | apply ex_drewN))) (hpp.ex (by with_reducible repeat (first | exact ex_refl _ | exact ex_more | apply ex_alloc | apply ex_plus | apply ex_drew | apply ex_drewN))) (hqq.ex (by with_reducible repeat (first | exact ex_refl _ | exact ex_more | apply ex_alloc | apply ex_plus | apply ex_drew | apply ex_drewN))) hf hg (by omega) (by omega))).mono ?_; rintro e w' ⟨rfl, nx, rfl⟩; rw [h3]))
    go_ret
    exact ⟨rfl, by with_reducible repeat (first | exact Below.refl _ _ | apply ba | apply bp | apply bd | apply bn)⟩

set_option maxRecDepth 100000 in
set_option maxHeartbeats 8000000 in
theorem rsame_calls (va ua pa : Option Addr) (vn vc un uc pn pc : Nat) (hs : List PH) (xa ya za : Option Addr) (xn xc yn yc zn zc : Nat) (gs : List PH) (m o : Ms) (w : World) (hm : MeshAt w ⟨va, vn, vc, ua, un, uc, pa, pn, pc⟩ hs m) (hm2 : MeshAt w ⟨xa, xn, xc, ya, yn, yc, za, zn, zc⟩ gs o) (hf : Few hs) (hg : Few gs) (s1 : vn ≤ 1000) (s2 : un ≤ 1000) (s3 : pn ≤ 100) (s4 : xn ≤ 1000) (s5 : yn ≤ 1000) (s6 : zn ≤ 100) :
    Calls Try.prog 22 #[.agg #[.slice va vn vc, .slice ua un uc, .slice pa pn pc], .agg #[.slice xa xn xc, .slice ya yn yc, .slice za zn zc]] w fun e w' => e = .returned (.bool (sameMs m o)) ∧ Below w.heap.size w w' := by
  have hvl : Lay fV w va vn m.vs := hm.vl
  have hul : Lay f2 w ua un m.uv := hm.ul
  have hpl : Lay fP w pa pn hs := hm.pl
  have hpp : PrimsAt w hs m.ps := hm.pp
  have hxl : Lay fV w xa xn o.vs := hm2.vl
  have hyl : Lay f2 w ya yn o.uv := hm2.ul
  have hql : Lay fP w za zn gs := hm2.pl
  have hqq : PrimsAt w gs o.ps := hm2.pp
  have lv := hvl.len
  have lu := hul.len
  have lp := hpl.len
  have lpp := hpp.len
  have lx := hxl.len
  have ly := hyl.len
  have lq := hql.len
  have lqq := hqq.len
  by_cases e1 : vn = xn
  rotate_left
  · rw [show sameMs m o = false by rw [sameMs, show sameV m.vs o.vs = false from same_len (by omega), Bool.false_and, Bool.false_and]]
    have ie : ¬ (vn : Int) = (xn : Int) := by omega
    have de : ((vn : Int) == (xn : Int)) = false := by rw [beq_eq_false_iff_ne]; omega
    go_enter Try.func22, Try.ntmps22
    go_wp2
    go_ret
    exact ⟨rfl, by with_reducible repeat (first | exact Below.refl _ _ | apply ba | apply bp | apply bd | apply bn)⟩
  by_cases e2 : un = yn
  rotate_left
  · rw [show sameMs m o = false by rw [sameMs, show same2 m.uv o.uv = false from same_len (by omega), Bool.and_false, Bool.false_and]]
    have i1 : (vn : Int) = (xn : Int) := by omega
    have ie : ¬ (un : Int) = (yn : Int) := by omega
    have de : ((un : Int) == (yn : Int)) = false := by rw [beq_eq_false_iff_ne]; omega
    go_enter Try.func22, Try.ntmps22
    go_wp2
    go_ret
    exact ⟨rfl, by with_reducible repeat (first | exact Below.refl _ _ | apply ba | apply bp | apply bd | apply bn)⟩
  by_cases e3 : pn = zn
  rotate_left
  · rw [show sameMs m o = false by rw [sameMs, show samePs m.ps o.ps = false from same_len (by omega), Bool.and_false]]
    have i1 : (vn : Int) = (xn : Int) := by omega
    have i2 : (un : Int) = (yn : Int) := by omega
    have ie : ¬ (pn : Int) = (zn : Int) := by omega
    have de : ((pn : Int) == (zn : Int)) = false := by rw [beq_eq_false_iff_ne]; omega
    go_enter Try.func22, Try.ntmps22
    go_wp2
    go_ret
    exact ⟨rfl, by with_reducible repeat (first | exact Below.refl _ _ | apply ba | apply bp | apply bd | apply bn)⟩
  subst e1 e2 e3
  go_enter Try.func22, Try.ntmps22
  go_wp2
  go_loopw [5] (fun i wr => ∃ k : Nat, k ≤ vn ∧ i = .int .i64 k ∧ (∀ j, j < k → eqV (nth zeroV m.vs j) (nth zeroV o.vs j) = true) ∧ ∃ x, wr = plus ((w.alloc (.cells #[.slice va vn vc, .slice ua un uc, .slice pa pn pc] 33)).alloc (.cells #[.slice xa vn xc, .slice ya un yc, .slice za pn zc] 33)) x) (fun i _ => vn - (intOf i).toNat)
  case atStart => exact ⟨0, Nat.zero_le _, rfl, fun j hj => by omega, (by with_reducible repeat (first | exact ex_refl _ | exact ex_more | apply ex_alloc | apply ex_plus | apply ex_drew | apply ex_drewN))⟩
  case round =>
    obtain ⟨k, hk, rfl, hsame, x, rfl⟩ := hrel
    by_cases hkl : k < vn
    · have ik : (k : Int) < (vn : Int) := by omega
      obtain ⟨g, off, rfl, hgl, hcell⟩ := hvl.some (by omega)
      obtain ⟨g2, off2, rfl, hgl2, hcell2⟩ := hxl.some (by omega)
      obtain ⟨c0, c1, c2⟩ := cellV hvl.len hcell hkl
      obtain ⟨d0, d1, d2⟩ := cellV hxl.len hcell2 hkl
      by_cases q0 : (nth zeroV m.vs k).x = (nth zeroV o.vs k).x
      rotate_left
      · have dq : ((nth zeroV m.vs k).x == (nth zeroV o.vs k).x) = false := by simp [q0]
        go_wp2
        refine region_plus (by kernel_rfl) (by kernel_rfl) ?_
        (repeat (go_big_quiet_step (fail)))
        refine wpQuiet_nil ?_
        rintro _ ⟨x2, rfl⟩
        go_wp2
        go_ret
        exact ⟨by rw [show sameMs m o = false by rw [sameMs, show sameV m.vs o.vs = false from same_not (k := k) (by omega) (by simp [eqV, q0]), Bool.false_and, Bool.false_and]]; rfl, by with_reducible repeat (first | exact Below.refl _ _ | apply ba | apply bp | apply bd | apply bn)⟩
      by_cases q1 : (nth zeroV m.vs k).y = (nth zeroV o.vs k).y
      rotate_left
      · have dq : ((nth zeroV m.vs k).y == (nth zeroV o.vs k).y) = false := by simp [q1]
        go_wp2
        refine region_plus (by kernel_rfl) (by kernel_rfl) ?_
        (repeat (go_big_quiet_step (fail)))
        refine wpQuiet_nil ?_
        rintro _ ⟨x2, rfl⟩
        go_wp2
        go_ret
        exact ⟨by rw [show sameMs m o = false by rw [sameMs, show sameV m.vs o.vs = false from same_not (k := k) (by omega) (by simp [eqV, q1]), Bool.false_and, Bool.false_and]]; rfl, by with_reducible repeat (first | exact Below.refl _ _ | apply ba | apply bp | apply bd | apply bn)⟩
      by_cases q2 : (nth zeroV m.vs k).z = (nth zeroV o.vs k).z
      rotate_left
      · have dq : ((nth zeroV m.vs k).z == (nth zeroV o.vs k).z) = false := by simp [q2]
        go_wp2
        refine region_plus (by kernel_rfl) (by kernel_rfl) ?_
        (repeat (go_big_quiet_step (fail)))
        refine wpQuiet_nil ?_
        rintro _ ⟨x2, rfl⟩
        go_wp2
        go_ret
        exact ⟨by rw [show sameMs m o = false by rw [sameMs, show sameV m.vs o.vs = false from same_not (k := k) (by omega) (by simp [eqV, q2]), Bool.false_and, Bool.false_and]]; rfl, by with_reducible repeat (first | exact Below.refl _ _ | apply ba | apply bp | apply bd | apply bn)⟩
      go_wp2
      refine region_plus (by kernel_rfl) (by kernel_rfl) ?_
      (repeat (go_big_quiet_step (fail)))
      refine wpQuiet_nil ?_
      rintro _ ⟨x2, rfl⟩
      go_wp2
      go_roundw
      case rel => exact ⟨k + 1, by omega, by go_num, upto_succ hsame (by simp [eqV, q0, q1, q2]), (by with_reducible repeat (first | exact ex_refl _ | exact ex_more | apply ex_alloc | apply ex_plus | apply ex_drew | apply ex_drewN))⟩
      case measure => simp [intOf]; omega
    · have ik : ¬ (k : Int) < (vn : Int) := by omega
      have hall1 : ∀ j, j < vn → eqV (nth zeroV m.vs j) (nth zeroV o.vs j) = true := fun j hj => hsame j (by omega)
      clear hsame
      go_wp2
      go_loopw [6] (fun i wr => ∃ k : Nat, k ≤ un ∧ i = .int .i64 k ∧ (∀ j, j < k → eq2 (nth (0, 0) m.uv j) (nth (0, 0) o.uv j) = true) ∧ ∃ x, wr = plus ((w.alloc (.cells #[.slice va vn vc, .slice ua un uc, .slice pa pn pc] 33)).alloc (.cells #[.slice xa vn xc, .slice ya un yc, .slice za pn zc] 33)) x) (fun i _ => un - (intOf i).toNat)
      case atStart => exact ⟨0, Nat.zero_le _, rfl, fun j hj => by omega, (by with_reducible repeat (first | exact ex_refl _ | exact ex_more | apply ex_alloc | apply ex_plus | apply ex_drew | apply ex_drewN))⟩
      case round =>
        obtain ⟨k, hk, rfl, hsame, x, rfl⟩ := hrel
        by_cases hkl : k < un
        · have ik : (k : Int) < (un : Int) := by omega
          obtain ⟨g, off, rfl, hgl, hcell⟩ := hul.some (by omega)
          obtain ⟨g2, off2, rfl, hgl2, hcell2⟩ := hyl.some (by omega)
          obtain ⟨c0, c1⟩ := cell2 hul.len hcell hkl
          obtain ⟨d0, d1⟩ := cell2 hyl.len hcell2 hkl
          by_cases q0 : (nth (0, 0) m.uv k).1 = (nth (0, 0) o.uv k).1
          rotate_left
          · have dq : ((nth (0, 0) m.uv k).1 == (nth (0, 0) o.uv k).1) = false := by simp [q0]
            go_wp2
            refine region_plus (by kernel_rfl) (by kernel_rfl) ?_
            (repeat (go_big_quiet_step (fail)))
            refine wpQuiet_nil ?_
            rintro _ ⟨x2, rfl⟩
            go_wp2
            go_ret
            exact ⟨by rw [show sameMs m o = false by rw [sameMs, show same2 m.uv o.uv = false from same_not (k := k) (by omega) (by simp [eq2, q0]), Bool.and_false, Bool.false_and]]; rfl, by with_reducible repeat (first | exact Below.refl _ _ | apply ba | apply bp | apply bd | apply bn)⟩
          by_cases q1 : (nth (0, 0) m.uv k).2 = (nth (0, 0) o.uv k).2
          rotate_left
          · have dq : ((nth (0, 0) m.uv k).2 == (nth (0, 0) o.uv k).2) = false := by simp [q1]
            go_wp2
            refine region_plus (by kernel_rfl) (by kernel_rfl) ?_
            (repeat (go_big_quiet_step (fail)))
            refine wpQuiet_nil ?_
            rintro _ ⟨x2, rfl⟩
            go_wp2
            go_ret
            exact ⟨by rw [show sameMs m o = false by rw [sameMs, show same2 m.uv o.uv = false from same_not (k := k) (by omega) (by simp [eq2, q1]), Bool.and_false, Bool.false_and]]; rfl, by with_reducible repeat (first | exact Below.refl _ _ | apply ba | apply bp | apply bd | apply bn)⟩
          go_wp2
          refine region_plus (by kernel_rfl) (by kernel_rfl) ?_
          (repeat (go_big_quiet_step (fail)))
          refine wpQuiet_nil ?_
          rintro _ ⟨x2, rfl⟩
          go_wp2
          go_roundw
          case rel => exact ⟨k + 1, by omega, by go_num, upto_succ hsame (by simp [eq2, q0, q1]), (by with_reducible repeat (first | exact ex_refl _ | exact ex_more | apply ex_alloc | apply ex_plus | apply ex_drew | apply ex_drewN))⟩
          case measure => simp [intOf]; omega
        · have ik : ¬ (k : Int) < (un : Int) := by omega
          have hall2 : ∀ j, j < un → eq2 (nth (0, 0) m.uv j) (nth (0, 0) o.uv j) = true := fun j hj => hsame j (by omega)
          clear hsame
          go_wp2
          go_loopw [7] (fun i wr => ∃ k : Nat, k ≤ pn ∧ i = .int .i64 k ∧ (∀ j, j < k → samePr (nth dPr m.ps j) (nth dPr o.ps j) = true) ∧ ∃ x, wr = plus ((w.alloc (.cells #[.slice va vn vc, .slice ua un uc, .slice pa pn pc] 33)).alloc (.cells #[.slice xa vn xc, .slice ya un yc, .slice za pn zc] 33)) x) (fun i _ => pn - (intOf i).toNat)
          case atStart => exact ⟨0, Nat.zero_le _, rfl, fun j hj => by omega, (by with_reducible repeat (first | exact ex_refl _ | exact ex_more | apply ex_alloc | apply ex_plus | apply ex_drew | apply ex_drewN))⟩
          case round =>
            obtain ⟨k, hk, rfl, hsame, x, rfl⟩ := hrel
            by_cases hkl : k < pn
            · have ik : (k : Int) < (pn : Int) := by omega
              obtain ⟨g, off, rfl, hgl, hcell⟩ := hpl.some (by omega)
              obtain ⟨g2, off2, rfl, hgl2, hcell2⟩ := hql.some (by omega)
              have hf1 := hf k (by omega)
              have hg1 := hg k (by omega)
              obtain ⟨p0, p1⟩ := cellP hpl.len hcell (k := k) (by omega)
              have hp := hpp.one k (by rw [hpl.len]; omega)
              generalize hpep : nth dPr m.ps k = pr at *
              generalize hhep : nth dPH hs k = ph at *
              obtain ⟨pk, pA, pN, pC⟩ := ph
              obtain ⟨pk2, px⟩ := pr
              obtain ⟨hp1, hp2, hp3, hp4, hp5, hp6⟩ := hp
              simp only at p0 p1 hp1 hp2 hp3 hp4 hp5 hp6
              subst hp1
              obtain ⟨q0, q1⟩ := cellP hql.len hcell2 (k := k) (by omega)
              have hq := hqq.one k (by rw [hql.len]; omega)
              generalize hpeq : nth dPr o.ps k = qr at *
              generalize hheq : nth dPH gs k = qh at *
              obtain ⟨qk, qA, qN, qC⟩ := qh
              obtain ⟨qk2, qx⟩ := qr
              obtain ⟨hq1, hq2, hq3, hq4, hq5, hq6⟩ := hq
              simp only at q0 q1 hq1 hq2 hq3 hq4 hq5 hq6
              subst hq1
              simp only at hf1 hg1
              by_cases hkk : pk = qk
              rotate_left
              · have dk : (pk == qk) = false := by rw [beq_eq_false_iff_ne]; exact hkk
                have dk2 : (pk != qk) = true := by rw [bne, dk]; rfl
                have dk3 : decide (pk = qk) = false := decide_eq_false hkk
                go_wp2
                refine region_plus (by kernel_rfl) (by kernel_rfl) ?_
                (repeat (go_big_quiet_step ((go_at_call 14; exact plus_of (numbers_calls _ _ _ _ _ _ px qx _ (hp6.ex (by with_reducible repeat (first | exact ex_refl _ | exact ex_more | apply ex_alloc | apply ex_plus | apply ex_drew | apply ex_drewN))) (hq6.ex (by with_reducible repeat (first | exact ex_refl _ | exact ex_more | apply ex_alloc | apply ex_plus | apply ex_drew | apply ex_drewN))) (by omega) (by omega))))))
                refine wpQuiet_nil ?_
                rintro _ ⟨x2, rfl⟩
                go_wp2
                go_ret
                exact ⟨by rw [show sameMs m o = false by rw [sameMs, show samePs m.ps o.ps = false from same_not (k := k) (by omega) (by rw [hpep, hpeq]; simp [samePr, hkk]), Bool.and_false]]; rfl, by with_reducible repeat (first | exact Below.refl _ _ | apply ba | apply bp | apply bd | apply bn)⟩
              subst hkk
              cases hi : sameI px qx
              · go_wp2
                refine region_plus (by kernel_rfl) (by kernel_rfl) ?_
                (repeat (go_big_quiet_step ((go_at_call 14; exact plus_of (numbers_calls _ _ _ _ _ _ px qx _ (hp6.ex (by with_reducible repeat (first | exact ex_refl _ | exact ex_more | apply ex_alloc | apply ex_plus | apply ex_drew | apply ex_drewN))) (hq6.ex (by with_reducible repeat (first | exact ex_refl _ | exact ex_more | apply ex_alloc | apply ex_plus | apply ex_drew | apply ex_drewN))) (by omega) (by omega))))))
                refine wpQuiet_nil ?_
                rintro _ ⟨x2, rfl⟩
                go_wp2
                go_ret
                exact ⟨by rw [show sameMs m o = false by rw [sameMs, show samePs m.ps o.ps = false from same_not (k := k) (by omega) (by rw [hpep, hpeq]; simp [samePr, hi]), Bool.and_false]]; rfl, by with_reducible repeat (first | exact Below.refl _ _ | apply ba | apply bp | apply bd | apply bn)⟩
              go_wp2
              refine region_plus (by kernel_rfl) (by kernel_rfl) ?_
              (repeat (go_big_quiet_step ((go_at_call 14; exact plus_of (numbers_calls _ _ _ _ _ _ px qx _ (hp6.ex (by with_reducible repeat (first | exact ex_refl _ | exact ex_more | apply ex_alloc | apply ex_plus | apply ex_drew | apply ex_drewN))) (hq6.ex (by with_reducible repeat (first | exact ex_refl _ | exact ex_more | apply ex_alloc | apply ex_plus | apply ex_drew | apply ex_drewN))) (by omega) (by omega))))))
              refine wpQuiet_nil ?_
              rintro _ ⟨x2, rfl⟩
              go_wp2
              go_roundw
              case rel => exact ⟨k + 1, by omega, by go_num, upto_succ hsame (by rw [hpep, hpeq]; simp [samePr, hi]), (by with_reducible repeat (first | exact ex_refl _ | exact ex_more | apply ex_alloc | apply ex_plus | apply ex_drew | apply ex_drewN))⟩
              case measure => simp [intOf]; omega
            · have ik : ¬ (k : Int) < (pn : Int) := by omega
              have hall3 : ∀ j, j < pn → samePr (nth dPr m.ps j) (nth dPr o.ps j) = true := fun j hj => hsame j (by omega)
              clear hsame
              go_wp2
              go_ret
              exact ⟨by rw [show sameMs m o = true by rw [sameMs, show sameV m.vs o.vs = true from same_all (by omega) (fun j hj => hall1 j (by omega)), show same2 m.uv o.uv = true from same_all (by omega) (fun j hj => hall2 j (by omega)), show samePs m.ps o.ps = true from same_all (by omega) (fun j hj => hall3 j (by omega))]; rfl]; rfl, by with_reducible repeat (first | exact Below.refl _ _ | apply ba | apply bp | apply bd | apply bn)⟩

end Go.Proofs.Ytkiahgkfgcjkgaa
