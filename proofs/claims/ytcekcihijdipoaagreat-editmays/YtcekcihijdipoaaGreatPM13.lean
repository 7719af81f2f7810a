/- A pack of texts: Mesh14, Ed8, EdMath. -/
import Derived.Test.YtcekcihijdipoaaGreatPM12
import Derived.Test.YtcekcihijdipoaaGreatPM10
import Derived.Test.YtcekcihijdipoaaGreatPM2
namespace Go.Proofs.YtcekcihijdipoaaGreat

section


open Go.RowKit Go.ChangeShapes Go.WideShapes Go.ChangeAt

set_option linter.unusedSimpArgs false

set_option linter.unusedVariables false

attribute [local go_sem] plus_size plus_drew dn_set dn_alloc dn_plus plus_dn cell_plus frozen_plus set_plus cell_alloc frozen_alloc set_alloc

attribute [local go_sem] eqarr_40 nearr_40 larr_40

attribute [local go_sem] eqarr_137 nearr_137 larr_137

attribute [local go_sem] isnil_47

attribute [local go_sem] isnil_57

attribute [local go_sem] isnil_58

attribute [local go_sem] isnil_59

set_option maxHeartbeats 4000000 in
theorem same_calls (va ua pa : Option Addr) (vn vc un uc pn pc : Nat) (hs : List PH) (xa ya za : Option Addr) (xn xc yn yc zn zc : Nat) (gs : List PH) (m o : Ms) (w : World) (hm : MeshAt w ⟨va, vn, vc, ua, un, uc, pa, pn, pc⟩ hs m) (hm2 : MeshAt w ⟨xa, xn, xc, ya, yn, yc, za, zn, zc⟩ gs o) (hf : FewM hs) (hg : FewM gs) (s1 : vn ≤ 1000) (s2 : un ≤ 1000) (s3 : pn ≤ 100) (s4 : xn ≤ 1000) (s5 : yn ≤ 1000) (s6 : zn ≤ 100) :
    Calls Tryz.prog 58 #[.agg #[.slice va vn vc, .slice ua un uc, .slice pa pn pc], .agg #[.slice xa xn xc, .slice ya yn yc, .slice za zn zc]] w fun e w' => e = .returned (.bool (sameMs m o)) ∧ Below w.heap.size w w' := by
  have hvl : Lay fV w va vn m.vs := hm.vl
  have hul : Lay f2 w ua un m.uv := hm.ul
  have hpl : Lay fP w pa pn hs := hm.pl
  have hpp : PrimsAt w hs m.ps := hm.pp
  have hxl : Lay fV w xa xn o.vs := hm2.vl
  have hyl : Lay f2 w ya yn o.uv := hm2.ul
  have hql : Lay fP w za zn gs := hm2.pl
  have hqq : PrimsAt w gs o.ps := hm2.pp
  have lv := hvl.len
  have lu := hul.len
  have lp := hpl.len
  have lpp := hpp.len
  have lx := hxl.len
  have ly := hyl.len
  have lq := hql.len
  have lqq := hqq.len
  cases h1 : sameV m.vs o.vs
  · rw [show sameMs m o = false by rw [sameMs, h1, Bool.false_and, Bool.false_and]]
    go_enter Tryz.func58, Tryz.ntmps58
    go_wp2_with (first | (go_at_call 107; refine (plus_post (equalV_calls _ _ _ _ _ _ m.vs o.vs _ (hvl.ex (by with_reducible repeat (first | exact ex_refl _ | exact ex_moreM | apply ex_alloc | apply ex_plus | apply ex_drew | apply ex_drewN))) (hxl.ex (by with_reducible repeat (first | exact ex_refl _ | exact ex_moreM | apply ex_alloc | apply ex_plus | apply ex_drew | apply ex_drewN))) (by omega) (by omega))).mono ?_; rintro e w' ⟨rfl, nx, rfl⟩; rw [h1]) | (go_at_call 108; refine (plus_post (equal2_calls _ _ _ _ _ _ m.uv o.uv _ (hul.ex (by with_reducible repeat (first | exact ex_refl _ | exact ex_moreM | apply ex_alloc | apply ex_plus | apply ex_drew | apply ex_drewN))) (hyl.ex (by with_reducible repeat (first | exact ex_refl _ | exact ex_moreM | apply ex_alloc | apply ex_plus | apply ex_drew | apply ex_drewN))) (by omega) (by omega))).mono ?_; rintro e w' ⟨rfl, nx, rfl⟩; rw [h2]) | (go_at_call 109; refine (plus_post (equalFunc_calls _ _ _ _ _ _ hs gs m.ps o.ps _ (hpl.ex (by with_reducible repeat (first | exact ex_refl _ | exact ex_moreM | apply ex_alloc | apply ex_plus | apply ex_drew | apply ex_drewN))) (hql.ex (by with_reducible repeat (first | exact ex_refl _ | exact ex_moreM | apply ex_alloc | apply ex_plus | apply ex_drew | apply ex_drewN))) (hpp.ex (by with_reducible repeat (first | exact ex_refl _ | exact ex_moreM | apply ex_alloc | apply ex_plus | apply ex_drew | apply ex_drewN))) (hqq.ex (by with_reducible repeat (first | exact ex_refl _ | exact ex_moreM | apply ex_alloc | apply ex_plus | apply ex_drew | apply ex_drewN))) hf hg (by omega) (by omega))).mono ?_; rintro e w' ⟨rfl, nx, rfl⟩; rw [h3]))
    go_ret
    exact ⟨rfl, by with_reducible repeat (first | exact Below.refl _ _ | apply ba | apply bp | apply bd | apply bn)⟩
  cases h2 : same2 m.uv o.uv
  · rw [show sameMs m o = false by rw [sameMs, h2, Bool.and_false, Bool.false_and]]
    go_enter Tryz.func58, Tryz.ntmps58
    go_wp2_with (first | (go_at_call 107; refine (plus_post (equalV_calls _ _ _ _ _ _ m.vs o.vs _ (hvl.ex (by with_reducible repeat (first | exact ex_refl _ | exact ex_moreM | apply ex_alloc | apply ex_plus | apply ex_drew | apply ex_drewN))) (hxl.ex (by with_reducible repeat (first | exact ex_refl _ | exact ex_moreM | apply ex_alloc | apply ex_plus | apply ex_drew | apply ex_drewN))) (by omega) (by omega))).mono ?_; rintro e w' ⟨rfl, nx, rfl⟩; rw [h1]) | (go_at_call 108; refine (plus_post (equal2_calls _ _ _ _ _ _ m.uv o.uv _ (hul.ex (by with_reducible repeat (first | exact ex_refl _ | exact ex_moreM | apply ex_alloc | apply ex_plus | apply ex_drew | apply ex_drewN))) (hyl.ex (by with_reducible repeat (first | exact ex_refl _ | exact ex_moreM | apply ex_alloc | apply ex_plus | apply ex_drew | apply ex_drewN))) (by omega) (by omega))).mono ?_; rintro e w' ⟨rfl, nx, rfl⟩; rw [h2]) | (go_at_call 109; refine (plus_post (equalFunc_calls _ _ _ _ _ _ hs gs m.ps o.ps _ (hpl.ex (by with_reducible repeat (first | exact ex_refl _ | exact ex_moreM | apply ex_alloc | apply ex_plus | apply ex_drew | apply ex_drewN))) (hql.ex (by with_reducible repeat (first | exact ex_refl _ | exact ex_moreM | apply ex_alloc | apply ex_plus | apply ex_drew | apply ex_drewN))) (hpp.ex (by with_reducible repeat (first | exact ex_refl _ | exact ex_moreM | apply ex_alloc | apply ex_plus | apply ex_drew | apply ex_drewN))) (hqq.ex (by with_reducible repeat (first | exact ex_refl _ | exact ex_moreM | apply ex_alloc | apply ex_plus | apply ex_drew | apply ex_drewN))) hf hg (by omega) (by omega))).mono ?_; rintro e w' ⟨rfl, nx, rfl⟩; rw [h3]))
    go_ret
    exact ⟨rfl, by with_reducible repeat (first | exact Below.refl _ _ | apply ba | apply bp | apply bd | apply bn)⟩
  cases h3 : samePs m.ps o.ps
  · rw [show sameMs m o = false by rw [sameMs, h3, Bool.and_false]]
    go_enter Tryz.func58, Tryz.ntmps58
    go_wp2_with (first | (go_at_call 107; refine (plus_post (equalV_calls _ _ _ _ _ _ m.vs o.vs _ (hvl.ex (by with_reducible repeat (first | exact ex_refl _ | exact ex_moreM | apply ex_alloc | apply ex_plus | apply ex_drew | apply ex_drewN))) (hxl.ex (by with_reducible repeat (first | exact ex_refl _ | exact ex_moreM | apply ex_alloc | apply ex_plus | apply ex_drew | apply ex_drewN))) (by omega) (by omega))).mono ?_; rintro e w' ⟨rfl, nx, rfl⟩; rw [h1]) | (go_at_call 108; refine (plus_post (equal2_calls _ _ _ _ _ _ m.uv o.uv _ (hul.ex (by with_reducible repeat (first | exact ex_refl _ | exact ex_moreM | apply ex_alloc | apply ex_plus | apply ex_drew | apply ex_drewN))) (hyl.ex (by with_reducible repeat (first | exact ex_refl _ | exact ex_moreM | apply ex_alloc | apply ex_plus | apply ex_drew | apply ex_drewN))) (by omega) (by omega))).mono ?_; rintro e w' ⟨rfl, nx, rfl⟩; rw [h2]) | (go_at_call 109; refine (plus_post (equalFunc_calls _ _ _ _ _ _ hs gs m.ps o.ps _ (hpl.ex (by with_reducible repeat (first | exact ex_refl _ | exact ex_moreM | apply ex_alloc | apply ex_plus | apply ex_drew | apply ex_drewN))) (hql.ex (by with_reducible repeat (first | exact ex_refl _ | exact ex_moreM | apply ex_alloc | apply ex_plus | apply ex_drew | apply ex_drewN))) (hpp.ex (by with_reducible repeat (first | exact ex_refl _ | exact ex_moreM | apply ex_alloc | apply ex_plus | apply ex_drew | apply ex_drewN))) (hqq.ex (by with_reducible repeat (first | exact ex_refl _ | exact ex_moreM | apply ex_alloc | apply ex_plus | apply ex_drew | apply ex_drewN))) hf hg (by omega) (by omega))).mono ?_; rintro e w' ⟨rfl, nx, rfl⟩; rw [h3]))
    go_ret
    exact ⟨rfl, by with_reducible repeat (first | exact Below.refl _ _ | apply ba | apply bp | apply bd | apply bn)⟩
  · rw [show sameMs m o = true by rw [sameMs, h1, h2, h3]; rfl]
    go_enter Tryz.func58, Tryz.ntmps58
    go_wp2_with (first | (go_at_call 107; refine (plus_post (equalV_calls _ _ _ _ _ _ m.vs o.vs _ (hvl.ex (by with_reducible repeat (first | exact ex_refl _ | exact ex_moreM | apply ex_alloc | apply ex_plus | apply ex_drew | apply ex_drewN))) (hxl.ex (by with_reducible repeat (first | exact ex_refl _ | exact ex_moreM | apply ex_alloc | apply ex_plus | apply ex_drew | apply ex_drewN))) (by omega) (by omega))).mono ?_; rintro e w' ⟨rfl, nx, rfl⟩; rw [h1]) | (go_at_call 108; refine (plus_post (equal2_calls _ _ _ _ _ _ m.uv o.uv _ (hul.ex (by with_reducible repeat (first | exact ex_refl _ | exact ex_moreM | apply ex_alloc | apply ex_plus | apply ex_drew | apply ex_drewN))) (hyl.ex (by with_reducible repeat (first | exact ex_refl _ | exact ex_moreM | apply ex_alloc | apply ex_plus | apply ex_drew | apply ex_drewN))) (by omega) (by omega))).mono ?_; rintro e w' ⟨rfl, nx, rfl⟩; rw [h2]) | (go_at_call 109; refine (plus_post (equalFunc_calls _ _ _ _ _ _ hs gs m.ps o.ps _ (hpl.ex (by with_reducible repeat (first | exact ex_refl _ | exact ex_moreM | apply ex_alloc | apply ex_plus | apply ex_drew | apply ex_drewN))) (hql.ex (by with_reducible repeat (first | exact ex_refl _ | exact ex_moreM | apply ex_alloc | apply ex_plus | apply ex_drew | apply ex_drewN))) (hpp.ex (by with_reducible repeat (first | exact ex_refl _ | exact ex_moreM | apply ex_alloc | apply ex_plus | apply ex_drew | apply ex_drewN))) (hqq.ex (by with_reducible repeat (first | exact ex_refl _ | exact ex_moreM | apply ex_alloc | apply ex_plus | apply ex_drew | apply ex_drewN))) hf hg (by omega) (by omega))).mono ?_; rintro e w' ⟨rfl, nx, rfl⟩; rw [h3]))
    go_ret
    exact ⟨rfl, by with_reducible repeat (first | exact Below.refl _ _ | apply ba | apply bp | apply bd | apply bn)⟩

set_option maxRecDepth 100000 in
set_option maxHeartbeats 8000000 in
theorem rsame_calls (va ua pa : Option Addr) (vn vc un uc pn pc : Nat) (hs : List PH) (xa ya za : Option Addr) (xn xc yn yc zn zc : Nat) (gs : List PH) (m o : Ms) (w : World) (hm : MeshAt w ⟨va, vn, vc, ua, un, uc, pa, pn, pc⟩ hs m) (hm2 : MeshAt w ⟨xa, xn, xc, ya, yn, yc, za, zn, zc⟩ gs o) (hf : FewM hs) (hg : FewM gs) (s1 : vn ≤ 1000) (s2 : un ≤ 1000) (s3 : pn ≤ 100) (s4 : xn ≤ 1000) (s5 : yn ≤ 1000) (s6 : zn ≤ 100) :
    Calls Tryz.prog 54 #[.agg #[.slice va vn vc, .slice ua un uc, .slice pa pn pc], .agg #[.slice xa xn xc, .slice ya yn yc, .slice za zn zc]] w fun e w' => e = .returned (.bool (sameMs m o)) ∧ Below w.heap.size w w' := by
  have hvl : Lay fV w va vn m.vs := hm.vl
  have hul : Lay f2 w ua un m.uv := hm.ul
  have hpl : Lay fP w pa pn hs := hm.pl
  have hpp : PrimsAt w hs m.ps := hm.pp
  have hxl : Lay fV w xa xn o.vs := hm2.vl
  have hyl : Lay f2 w ya yn o.uv := hm2.ul
  have hql : Lay fP w za zn gs := hm2.pl
  have hqq : PrimsAt w gs o.ps := hm2.pp
  have lv := hvl.len
  have lu := hul.len
  have lp := hpl.len
  have lpp := hpp.len
  have lx := hxl.len
  have ly := hyl.len
  have lq := hql.len
  have lqq := hqq.len
  by_cases e1 : vn = xn
  rotate_left
  · rw [show sameMs m o = false by rw [sameMs, show sameV m.vs o.vs = false from same_len (by omega), Bool.false_and, Bool.false_and]]
    have ie : ¬ (vn : Int) = (xn : Int) := by omega
    have de : ((vn : Int) == (xn : Int)) = false := by rw [beq_eq_false_iff_ne]; omega
    go_enter Tryz.func54, Tryz.ntmps54
    go_wp2
    go_ret
    exact ⟨rfl, by with_reducible repeat (first | exact Below.refl _ _ | apply ba | apply bp | apply bd | apply bn)⟩
  by_cases e2 : un = yn
  rotate_left
  · rw [show sameMs m o = false by rw [sameMs, show same2 m.uv o.uv = false from same_len (by omega), Bool.and_false, Bool.false_and]]
    have i1 : (vn : Int) = (xn : Int) := by omega
    have ie : ¬ (un : Int) = (yn : Int) := by omega
    have de : ((un : Int) == (yn : Int)) = false := by rw [beq_eq_false_iff_ne]; omega
    go_enter Tryz.func54, Tryz.ntmps54
    go_wp2
    go_ret
    exact ⟨rfl, by with_reducible repeat (first | exact Below.refl _ _ | apply ba | apply bp | apply bd | apply bn)⟩
  by_cases e3 : pn = zn
  rotate_left
  · rw [show sameMs m o = false by rw [sameMs, show samePs m.ps o.ps = false from same_len (by omega), Bool.and_false]]
    have i1 : (vn : Int) = (xn : Int) := by omega
    have i2 : (un : Int) = (yn : Int) := by omega
    have ie : ¬ (pn : Int) = (zn : Int) := by omega
    have de : ((pn : Int) == (zn : Int)) = false := by rw [beq_eq_false_iff_ne]; omega
    go_enter Tryz.func54, Tryz.ntmps54
    go_wp2
    go_ret
    exact ⟨rfl, by with_reducible repeat (first | exact Below.refl _ _ | apply ba | apply bp | apply bd | apply bn)⟩
  subst e1 e2 e3
  go_enter Tryz.func54, Tryz.ntmps54
  go_wp2
  go_loopw [5] (fun i wr => ∃ k : Nat, k ≤ vn ∧ i = .int .i64 k ∧ (∀ j, j < k → eqV (nth zeroV m.vs j) (nth zeroV o.vs j) = true) ∧ ∃ x, wr = plus ((w.alloc (.cells #[.slice va vn vc, .slice ua un uc, .slice pa pn pc] 61)).alloc (.cells #[.slice xa vn xc, .slice ya un yc, .slice za pn zc] 61)) x) (fun i _ => vn - (intOf i).toNat)
  case atStart => exact ⟨0, Nat.zero_le _, rfl, fun j hj => by omega, (by with_reducible repeat (first | exact ex_refl _ | exact ex_moreM | apply ex_alloc | apply ex_plus | apply ex_drew | apply ex_drewN))⟩
  case round =>
    obtain ⟨k, hk, rfl, hsame, x, rfl⟩ := hrel
    by_cases hkl : k < vn
    · have ik : (k : Int) < (vn : Int) := by omega
      obtain ⟨g, off, rfl, hgl, hcell⟩ := hvl.some (by omega)
      obtain ⟨g2, off2, rfl, hgl2, hcell2⟩ := hxl.some (by omega)
      obtain ⟨c0, c1, c2⟩ := cellV hvl.len hcell hkl
      obtain ⟨d0, d1, d2⟩ := cellV hxl.len hcell2 hkl
      by_cases q0 : (nth zeroV m.vs k).x = (nth zeroV o.vs k).x
      rotate_left
      · have dq : ((nth zeroV m.vs k).x == (nth zeroV o.vs k).x) = false := by simp [q0]
        go_wp2
        refine region_plus (by kernel_rfl) (by kernel_rfl) ?_
        (repeat (go_big_quiet_step (fail)))
        refine wpQuiet_nil ?_
        rintro _ ⟨x2, rfl⟩
        go_wp2
        go_ret
        exact ⟨by rw [show sameMs m o = false by rw [sameMs, show sameV m.vs o.vs = false from same_not (k := k) (by omega) (by simp [eqV, q0]), Bool.false_and, Bool.false_and]]; rfl, by with_reducible repeat (first | exact Below.refl _ _ | apply ba | apply bp | apply bd | apply bn)⟩
      by_cases q1 : (nth zeroV m.vs k).y = (nth zeroV o.vs k).y
      rotate_left
      · have dq : ((nth zeroV m.vs k).y == (nth zeroV o.vs k).y) = false := by simp [q1]
        go_wp2
        refine region_plus (by kernel_rfl) (by kernel_rfl) ?_
        (repeat (go_big_quiet_step (fail)))
        refine wpQuiet_nil ?_
        rintro _ ⟨x2, rfl⟩
        go_wp2
        go_ret
        exact ⟨by rw [show sameMs m o = false by rw [sameMs, show sameV m.vs o.vs = false from same_not (k := k) (by omega) (by simp [eqV, q1]), Bool.false_and, Bool.false_and]]; rfl, by with_reducible repeat (first | exact Below.refl _ _ | apply ba | apply bp | apply bd | apply bn)⟩
      by_cases q2 : (nth zeroV m.vs k).z = (nth zeroV o.vs k).z
      rotate_left
      · have dq : ((nth zeroV m.vs k).z == (nth zeroV o.vs k).z) = false := by simp [q2]
        go_wp2
        refine region_plus (by kernel_rfl) (by kernel_rfl) ?_
        (repeat (go_big_quiet_step (fail)))
        refine wpQuiet_nil ?_
        rintro _ ⟨x2, rfl⟩
        go_wp2
        go_ret
        exact ⟨by rw [show sameMs m o = false by rw [sameMs, show sameV m.vs o.vs = false from same_not (k := k) (by omega) (by simp [eqV, q2]), Bool.false_and, Bool.false_and]]; rfl, by with_reducible repeat (first | exact Below.refl _ _ | apply ba | apply bp | apply bd | apply bn)⟩
      go_wp2
      refine region_plus (by kernel_rfl) (by kernel_rfl) ?_
      (repeat (go_big_quiet_step (fail)))
      refine wpQuiet_nil ?_
      rintro _ ⟨x2, rfl⟩
      go_wp2
      go_roundw
      case rel => exact ⟨k + 1, by omega, by go_num, upto_succM hsame (by simp [eqV, q0, q1, q2]), (by with_reducible repeat (first | exact ex_refl _ | exact ex_moreM | apply ex_alloc | apply ex_plus | apply ex_drew | apply ex_drewN))⟩
      case measure => simp [intOf]; omega
    · have ik : ¬ (k : Int) < (vn : Int) := by omega
      have hall1 : ∀ j, j < vn → eqV (nth zeroV m.vs j) (nth zeroV o.vs j) = true := fun j hj => hsame j (by omega)
      clear hsame
      go_wp2
      go_loopw [6] (fun i wr => ∃ k : Nat, k ≤ un ∧ i = .int .i64 k ∧ (∀ j, j < k → eq2 (nth (0, 0) m.uv j) (nth (0, 0) o.uv j) = true) ∧ ∃ x, wr = plus ((w.alloc (.cells #[.slice va vn vc, .slice ua un uc, .slice pa pn pc] 61)).alloc (.cells #[.slice xa vn xc, .slice ya un yc, .slice za pn zc] 61)) x) (fun i _ => un - (intOf i).toNat)
      case atStart => exact ⟨0, Nat.zero_le _, rfl, fun j hj => by omega, (by with_reducible repeat (first | exact ex_refl _ | exact ex_moreM | apply ex_alloc | apply ex_plus | apply ex_drew | apply ex_drewN))⟩
      case round =>
        obtain ⟨k, hk, rfl, hsame, x, rfl⟩ := hrel
        by_cases hkl : k < un
        · have ik : (k : Int) < (un : Int) := by omega
          obtain ⟨g, off, rfl, hgl, hcell⟩ := hul.some (by omega)
          obtain ⟨g2, off2, rfl, hgl2, hcell2⟩ := hyl.some (by omega)
          obtain ⟨c0, c1⟩ := cell2 hul.len hcell hkl
          obtain ⟨d0, d1⟩ := cell2 hyl.len hcell2 hkl
          by_cases q0 : (nth (0, 0) m.uv k).1 = (nth (0, 0) o.uv k).1
          rotate_left
          · have dq : ((nth (0, 0) m.uv k).1 == (nth (0, 0) o.uv k).1) = false := by simp [q0]
            go_wp2
            refine region_plus (by kernel_rfl) (by kernel_rfl) ?_
            (repeat (go_big_quiet_step (fail)))
            refine wpQuiet_nil ?_
            rintro _ ⟨x2, rfl⟩
            go_wp2
            go_ret
            exact ⟨by rw [show sameMs m o = false by rw [sameMs, show same2 m.uv o.uv = false from same_not (k := k) (by omega) (by simp [eq2, q0]), Bool.and_false, Bool.false_and]]; rfl, by with_reducible repeat (first | exact Below.refl _ _ | apply ba | apply bp | apply bd | apply bn)⟩
          by_cases q1 : (nth (0, 0) m.uv k).2 = (nth (0, 0) o.uv k).2
          rotate_left
          · have dq : ((nth (0, 0) m.uv k).2 == (nth (0, 0) o.uv k).2) = false := by simp [q1]
            go_wp2
            refine region_plus (by kernel_rfl) (by kernel_rfl) ?_
            (repeat (go_big_quiet_step (fail)))
            refine wpQuiet_nil ?_
            rintro _ ⟨x2, rfl⟩
            go_wp2
            go_ret
            exact ⟨by rw [show sameMs m o = false by rw [sameMs, show same2 m.uv o.uv = false from same_not (k := k) (by omega) (by simp [eq2, q1]), Bool.and_false, Bool.false_and]]; rfl, by with_reducible repeat (first | exact Below.refl _ _ | apply ba | apply bp | apply bd | apply bn)⟩
          go_wp2
          refine region_plus (by kernel_rfl) (by kernel_rfl) ?_
          (repeat (go_big_quiet_step (fail)))
          refine wpQuiet_nil ?_
          rintro _ ⟨x2, rfl⟩
          go_wp2
          go_roundw
          case rel => exact ⟨k + 1, by omega, by go_num, upto_succM hsame (by simp [eq2, q0, q1]), (by with_reducible repeat (first | exact ex_refl _ | exact ex_moreM | apply ex_alloc | apply ex_plus | apply ex_drew | apply ex_drewN))⟩
          case measure => simp [intOf]; omega
        · have ik : ¬ (k : Int) < (un : Int) := by omega
          have hall2 : ∀ j, j < un → eq2 (nth (0, 0) m.uv j) (nth (0, 0) o.uv j) = true := fun j hj => hsame j (by omega)
          clear hsame
          go_wp2
          go_loopw [7] (fun i wr => ∃ k : Nat, k ≤ pn ∧ i = .int .i64 k ∧ (∀ j, j < k → samePr (nth dPr m.ps j) (nth dPr o.ps j) = true) ∧ ∃ x, wr = plus ((w.alloc (.cells #[.slice va vn vc, .slice ua un uc, .slice pa pn pc] 61)).alloc (.cells #[.slice xa vn xc, .slice ya un yc, .slice za pn zc] 61)) x) (fun i _ => pn - (intOf i).toNat)
          case atStart => exact ⟨0, Nat.zero_le _, rfl, fun j hj => by omega, (by with_reducible repeat (first | exact ex_refl _ | exact ex_moreM | apply ex_alloc | apply ex_plus | apply ex_drew | apply ex_drewN))⟩
          case round =>
            obtain ⟨k, hk, rfl, hsame, x, rfl⟩ := hrel
            by_cases hkl : k < pn
            · have ik : (k : Int) < (pn : Int) := by omega
              obtain ⟨g, off, rfl, hgl, hcell⟩ := hpl.some (by omega)
              obtain ⟨g2, off2, rfl, hgl2, hcell2⟩ := hql.some (by omega)
              have hf1 := hf k (by omega)
              have hg1 := hg k (by omega)
              obtain ⟨p0, p1⟩ := cellP hpl.len hcell (k := k) (by omega)
              have hp := hpp.one k (by rw [hpl.len]; omega)
              generalize hpep : nth dPr m.ps k = pr at *
              generalize hhep : nth dPH hs k = ph at *
              obtain ⟨pk, pA, pN, pC⟩ := ph
              obtain ⟨pk2, px⟩ := pr
              obtain ⟨hp1, hp2, hp3, hp4, hp5, hp6⟩ := hp
              simp only at p0 p1 hp1 hp2 hp3 hp4 hp5 hp6
              subst hp1
              obtain ⟨q0, q1⟩ := cellP hql.len hcell2 (k := k) (by omega)
              have hq := hqq.one k (by rw [hql.len]; omega)
              generalize hpeq : nth dPr o.ps k = qr at *
              generalize hheq : nth dPH gs k = qh at *
              obtain ⟨qk, qA, qN, qC⟩ := qh
              obtain ⟨qk2, qx⟩ := qr
              obtain ⟨hq1, hq2, hq3, hq4, hq5, hq6⟩ := hq
              simp only at q0 q1 hq1 hq2 hq3 hq4 hq5 hq6
              subst hq1
              simp only at hf1 hg1
              by_cases hkk : pk = qk
              rotate_left
              · have dk : (pk == qk) = false := by rw [beq_eq_false_iff_ne]; exact hkk
                have dk2 : (pk != qk) = true := by rw [bne, dk]; rfl
                have dk3 : decide (pk = qk) = false := decide_eq_false hkk
                go_wp2
                refine region_plus (by kernel_rfl) (by kernel_rfl) ?_
                (repeat (go_big_quiet_step ((go_at_call 62; exact plus_of (numbers_callsM _ _ _ _ _ _ px qx _ (hp6.ex (by with_reducible repeat (first | exact ex_refl _ | exact ex_moreM | apply ex_alloc | apply ex_plus | apply ex_drew | apply ex_drewN))) (hq6.ex (by with_reducible repeat (first | exact ex_refl _ | exact ex_moreM | apply ex_alloc | apply ex_plus | apply ex_drew | apply ex_drewN))) (by omega) (by omega))))))
                refine wpQuiet_nil ?_
                rintro _ ⟨x2, rfl⟩
                go_wp2
                go_ret
                exact ⟨by rw [show sameMs m o = false by rw [sameMs, show samePs m.ps o.ps = false from same_not (k := k) (by omega) (by rw [hpep, hpeq]; simp [samePr, hkk]), Bool.and_false]]; rfl, by with_reducible repeat (first | exact Below.refl _ _ | apply ba | apply bp | apply bd | apply bn)⟩
              subst hkk
              cases hi : sameI px qx
              · go_wp2
                refine region_plus (by kernel_rfl) (by kernel_rfl) ?_
                (repeat (go_big_quiet_step ((go_at_call 62; exact plus_of (numbers_callsM _ _ _ _ _ _ px qx _ (hp6.ex (by with_reducible repeat (first | exact ex_refl _ | exact ex_moreM | apply ex_alloc | apply ex_plus | apply ex_drew | apply ex_drewN))) (hq6.ex (by with_reducible repeat (first | exact ex_refl _ | exact ex_moreM | apply ex_alloc | apply ex_plus | apply ex_drew | apply ex_drewN))) (by omega) (by omega))))))
                refine wpQuiet_nil ?_
                rintro _ ⟨x2, rfl⟩
                go_wp2
                go_ret
                exact ⟨by rw [show sameMs m o = false by rw [sameMs, show samePs m.ps o.ps = false from same_not (k := k) (by omega) (by rw [hpep, hpeq]; simp [samePr, hi]), Bool.and_false]]; rfl, by with_reducible repeat (first | exact Below.refl _ _ | apply ba | apply bp | apply bd | apply bn)⟩
              go_wp2
              refine region_plus (by kernel_rfl) (by kernel_rfl) ?_
              (repeat (go_big_quiet_step ((go_at_call 62; exact plus_of (numbers_callsM _ _ _ _ _ _ px qx _ (hp6.ex (by with_reducible repeat (first | exact ex_refl _ | exact ex_moreM | apply ex_alloc | apply ex_plus | apply ex_drew | apply ex_drewN))) (hq6.ex (by with_reducible repeat (first | exact ex_refl _ | exact ex_moreM | apply ex_alloc | apply ex_plus | apply ex_drew | apply ex_drewN))) (by omega) (by omega))))))
              refine wpQuiet_nil ?_
              rintro _ ⟨x2, rfl⟩
              go_wp2
              go_roundw
              case rel => exact ⟨k + 1, by omega, by go_num, upto_succM hsame (by rw [hpep, hpeq]; simp [samePr, hi]), (by with_reducible repeat (first | exact ex_refl _ | exact ex_moreM | apply ex_alloc | apply ex_plus | apply ex_drew | apply ex_drewN))⟩
              case measure => simp [intOf]; omega
            · have ik : ¬ (k : Int) < (pn : Int) := by omega
              have hall3 : ∀ j, j < pn → samePr (nth dPr m.ps j) (nth dPr o.ps j) = true := fun j hj => hsame j (by omega)
              clear hsame
              go_wp2
              go_ret
              exact ⟨by rw [show sameMs m o = true by rw [sameMs, show sameV m.vs o.vs = true from same_all (by omega) (fun j hj => hall1 j (by omega)), show same2 m.uv o.uv = true from same_all (by omega) (fun j hj => hall2 j (by omega)), show samePs m.ps o.ps = true from same_all (by omega) (fun j hj => hall3 j (by omega))]; rfl]; rfl, by with_reducible repeat (first | exact Below.refl _ _ | apply ba | apply bp | apply bd | apply bn)⟩

end

section


open Go.RowKit Go.ChangeShapes Go.WideShapes Go.ChangeAt

set_option linter.unusedSimpArgs false

set_option linter.unusedVariables false

attribute [local go_sem] plus_size plus_drew dn_set dn_alloc dn_plus plus_dn cell_plus frozen_plus set_plus cell_alloc frozen_alloc set_alloc

theorem lay_part {α : Type} {f : α → List Value} {d : α} {w : World} {g off n k c : Nat} {l : List α} (hl : l.length = n) (hc : ∀ x, (f x).length = c) (h : ∀ j u, (l.flatMap f)[j]? = some u → w.cell? ⟨g, off + j, none⟩ = some u) (hk : k < n) :
    ∀ j v, (f (nth d l k))[j]? = some v → w.cell? ⟨g, off + k * c + j, none⟩ = some v := by
  intro j v hj
  have hjc : j < c := by rw [← hc (nth d l k)]; exact (List.getElem?_eq_some_iff.1 hj).1
  rw [Nat.add_assoc]
  exact cell_nth (d := d) hl hc h k j v hk hjc hj

def sameNds (l l2 : List Nd) : Bool := sameL sameNd nd0 l l2

def sameMss (l l2 : List Ms) : Bool := sameL sameMs ms0 l l2

def sameSc (a b : Sc) : Bool := sameG a.g b.g && (sameTps a.ts b.ts && (decide (a.root = b.root) && (sameNds a.ns b.ns && sameMss a.ms b.ms)))

/-- the lists of a scene are not too great -/
structure Small (x : SX) : Prop where
  n : ∀ k, k < x.nh.length → (nth nh0 x.nh k).n ≤ 10000
  m : ∀ k, k < x.mh.length → (nth mh0 x.mh k).vn ≤ 1000 ∧ (nth mh0 x.mh k).un ≤ 1000 ∧ (nth mh0 x.mh k).pn ≤ 100 ∧ FewM (nth [] x.ph k)

theorem rsameM_at {w : World} {h h2 : MH} {hs gs : List PH} {m o : Ms} {b : Bool} (hb : sameMs m o = b) (hm : MeshAt w h hs m) (hm2 : MeshAt w h2 gs o) (s1 : h.vn ≤ 1000 ∧ h.un ≤ 1000 ∧ h.pn ≤ 100 ∧ FewM hs) (s2 : h2.vn ≤ 1000 ∧ h2.un ≤ 1000 ∧ h2.pn ≤ 100 ∧ FewM gs) :
    Calls Tryz.prog 54 #[.agg #[.slice h.va h.vn h.vc, .slice h.ua h.un h.uc, .slice h.pa h.pn h.pc], .agg #[.slice h2.va h2.vn h2.vc, .slice h2.ua h2.un h2.uc, .slice h2.pa h2.pn h2.pc]] w fun e w' => e = .returned (.bool b) ∧ Below w.heap.size w w' :=
  hb ▸ rsame_calls _ _ _ _ _ _ _ _ _ hs _ _ _ _ _ _ _ _ _ gs m o w hm hm2 s1.2.2.2 s2.2.2.2 s1.1 s1.2.1 s1.2.2.1 s2.1 s2.2.1 s2.2.2.1

set_option maxRecDepth 100000 in
set_option maxHeartbeats 8000000 in
theorem rsame10_calls (h : SH) (x : SX) (s : Sc) (h' : SH) (x' : SX) (s' : Sc) (w : World) (hG : GrAt w h.ga h.gn h.ka h.kn x.gr s.g) (hR : RestAt w h x s) (hS : Small x) (hG' : GrAt w h'.ga h'.gn h'.ka h'.kn x'.gr s'.g) (hR' : RestAt w h' x' s') (hS' : Small x') :
    Calls Tryz.prog 19 #[vS h, vS h'] w fun e w' => e = .returned (.bool (sameSc s s')) ∧ ∃ y, w' = plus w y := by
  obtain ⟨ga, gn, gc, ka, kn, kc, na, nn, nc, ma, mn, mc, ta, tn, tc, r0, r1⟩ := h
  obtain ⟨ga', gn', gc', ka', kn', kc', na', nn', nc', ma', mn', mc', ta', tn', tc', r0', r1'⟩ := h'
  have nl := hR.nl
  have ns := hR.ns
  have ml := hR.ml
  have ms := hR.ms
  have tl := hR.tl
  have ts := hR.ts
  have n3 := hR.n3
  have n1 := hR.n1
  have n2 := hR.n2
  have hr := hR.root
  simp only at nl ml ms tl ts n1 n2 n3 hr hG
  clear hR
  have nlen := nl.len
  have nlen2 := ns.len
  have mlen := ml.len
  have mlen2 := ms.len
  have nl' := hR'.nl
  have ns' := hR'.ns
  have ml' := hR'.ml
  have ms' := hR'.ms
  have tl' := hR'.tl
  have ts' := hR'.ts
  have n3' := hR'.n3
  have n1' := hR'.n1
  have n2' := hR'.n2
  have hr' := hR'.root
  simp only at nl' ml' ms' tl' ts' n1' n2' n3' hr' hG'
  clear hR'
  have nlen' := nl'.len
  have nlen2' := ns'.len
  have mlen' := ml'.len
  have mlen2' := ms'.len
  unfold vS
  simp only
  obtain ⟨bg, hbg⟩ : ∃ b, sameG s.g s'.g = b := ⟨_, rfl⟩
  obtain ⟨bt, hbt⟩ : ∃ b, sameTps s.ts s'.ts = b := ⟨_, rfl⟩
  obtain ⟨br, hbr⟩ : ∃ b, eqh r0 r1 r0' r1' = b := ⟨_, rfl⟩
  have qH := eqH_is hbr
  have hroot : decide (s.root = s'.root) = br := by
    rw [hr, hr', ← hbr]
    by_cases e0 : r0 = r0' <;> by_cases e1 : r1 = r1' <;> simp [eqh, e0, e1]
  replace hbg := Hush9.mk hbg
  replace hbt := Hush9.mk hbt
  replace hroot := Hush9.mk hroot
  clear hbr hr hr'
  cases bg
  · go_enter Tryz.func19, Tryz.ntmps19
    go_wp2_with (go_at_call 52; refine (plus_post (gsame_calls _ _ _ _ _ _ x.gr s.g _ _ _ _ _ _ x'.gr s'.g _ (hG.ex (by with_reducible repeat (first | exact ex_refl _ | exact ex_more9 | apply ex_alloc | apply ex_plus | apply ex_drew | apply ex_drewN))) (hG'.ex (by with_reducible repeat (first | exact ex_refl _ | exact ex_more9 | apply ex_alloc | apply ex_plus | apply ex_drew | apply ex_drewN))))).mono ?_; rintro e w' ⟨rfl, nx, rfl⟩; rw [hbg.it])
    go_ret
    exact ⟨by rw [show sameSc s s' = false by simp [sameSc, hbg.it]]; rfl, (by with_reducible repeat (first | exact ex_refl _ | exact ex_more9 | apply ex_alloc | apply ex_plus | apply ex_drew | apply ex_drewN))⟩
  by_cases hnn : nn = nn'
  rotate_left
  · have dne : ((nn : Int) == (nn' : Int)) = false := by rw [beq_eq_false_iff_ne]; omega
    go_enter Tryz.func19, Tryz.ntmps19
    go_wp2_with (go_at_call 52; refine (plus_post (gsame_calls _ _ _ _ _ _ x.gr s.g _ _ _ _ _ _ x'.gr s'.g _ (hG.ex (by with_reducible repeat (first | exact ex_refl _ | exact ex_more9 | apply ex_alloc | apply ex_plus | apply ex_drew | apply ex_drewN))) (hG'.ex (by with_reducible repeat (first | exact ex_refl _ | exact ex_more9 | apply ex_alloc | apply ex_plus | apply ex_drew | apply ex_drewN))))).mono ?_; rintro e w' ⟨rfl, nx, rfl⟩; rw [hbg.it])
    go_ret
    exact ⟨by rw [show sameSc s s' = false by simp [sameSc, show sameNds s.ns s'.ns = false from same_len (by omega)]]; rfl, (by with_reducible repeat (first | exact ex_refl _ | exact ex_more9 | apply ex_alloc | apply ex_plus | apply ex_drew | apply ex_drewN))⟩
  by_cases hmn : mn = mn'
  rotate_left
  · have dne : ((mn : Int) == (mn' : Int)) = false := by rw [beq_eq_false_iff_ne]; omega
    subst hnn
    go_enter Tryz.func19, Tryz.ntmps19
    go_wp2_with (go_at_call 52; refine (plus_post (gsame_calls _ _ _ _ _ _ x.gr s.g _ _ _ _ _ _ x'.gr s'.g _ (hG.ex (by with_reducible repeat (first | exact ex_refl _ | exact ex_more9 | apply ex_alloc | apply ex_plus | apply ex_drew | apply ex_drewN))) (hG'.ex (by with_reducible repeat (first | exact ex_refl _ | exact ex_more9 | apply ex_alloc | apply ex_plus | apply ex_drew | apply ex_drewN))))).mono ?_; rintro e w' ⟨rfl, nx, rfl⟩; rw [hbg.it])
    go_ret
    exact ⟨by rw [show sameSc s s' = false by simp [sameSc, show sameMss s.ms s'.ms = false from same_len (by omega)]]; rfl, (by with_reducible repeat (first | exact ex_refl _ | exact ex_more9 | apply ex_alloc | apply ex_plus | apply ex_drew | apply ex_drewN))⟩
  subst hnn hmn
  cases bt
  · go_enter Tryz.func19, Tryz.ntmps19
    go_wp2_with (first | (go_at_call 52; refine (plus_post (gsame_calls _ _ _ _ _ _ x.gr s.g _ _ _ _ _ _ x'.gr s'.g _ (hG.ex (by with_reducible repeat (first | exact ex_refl _ | exact ex_more9 | apply ex_alloc | apply ex_plus | apply ex_drew | apply ex_drewN))) (hG'.ex (by with_reducible repeat (first | exact ex_refl _ | exact ex_more9 | apply ex_alloc | apply ex_plus | apply ex_drew | apply ex_drewN))))).mono ?_; rintro e w' ⟨rfl, nx, rfl⟩; rw [hbg.it]) | (go_at_call 53; refine (sameAll9_calls _ _ _ _ _ _ x.th x'.th s.ts s'.ts _ (tl.ex (by with_reducible repeat (first | exact ex_refl _ | exact ex_more9 | apply ex_alloc | apply ex_plus | apply ex_drew | apply ex_drewN))) (tl'.ex (by with_reducible repeat (first | exact ex_refl _ | exact ex_more9 | apply ex_alloc | apply ex_plus | apply ex_drew | apply ex_drewN))) (ts.ex (by with_reducible repeat (first | exact ex_refl _ | exact ex_more9 | apply ex_alloc | apply ex_plus | apply ex_drew | apply ex_drewN))) (ts'.ex (by with_reducible repeat (first | exact ex_refl _ | exact ex_more9 | apply ex_alloc | apply ex_plus | apply ex_drew | apply ex_drewN))) n3 n3').mono ?_; rintro e w' ⟨rfl, nx, rfl⟩; rw [hbt.it]))
    go_ret
    exact ⟨by rw [show sameSc s s' = false by simp [sameSc, hbt.it]]; rfl, (by with_reducible repeat (first | exact ex_refl _ | exact ex_more9 | apply ex_alloc | apply ex_plus | apply ex_drew | apply ex_drewN))⟩
  cases br
  · go_enter Tryz.func19, Tryz.ntmps19
    go_wp2_with (first | (go_at_call 52; refine (plus_post (gsame_calls _ _ _ _ _ _ x.gr s.g _ _ _ _ _ _ x'.gr s'.g _ (hG.ex (by with_reducible repeat (first | exact ex_refl _ | exact ex_more9 | apply ex_alloc | apply ex_plus | apply ex_drew | apply ex_drewN))) (hG'.ex (by with_reducible repeat (first | exact ex_refl _ | exact ex_more9 | apply ex_alloc | apply ex_plus | apply ex_drew | apply ex_drewN))))).mono ?_; rintro e w' ⟨rfl, nx, rfl⟩; rw [hbg.it]) | (go_at_call 53; refine (sameAll9_calls _ _ _ _ _ _ x.th x'.th s.ts s'.ts _ (tl.ex (by with_reducible repeat (first | exact ex_refl _ | exact ex_more9 | apply ex_alloc | apply ex_plus | apply ex_drew | apply ex_drewN))) (tl'.ex (by with_reducible repeat (first | exact ex_refl _ | exact ex_more9 | apply ex_alloc | apply ex_plus | apply ex_drew | apply ex_drewN))) (ts.ex (by with_reducible repeat (first | exact ex_refl _ | exact ex_more9 | apply ex_alloc | apply ex_plus | apply ex_drew | apply ex_drewN))) (ts'.ex (by with_reducible repeat (first | exact ex_refl _ | exact ex_more9 | apply ex_alloc | apply ex_plus | apply ex_drew | apply ex_drewN))) n3 n3').mono ?_; rintro e w' ⟨rfl, nx, rfl⟩; rw [hbt.it]))
    go_ret
    exact ⟨by rw [show sameSc s s' = false by simp only [sameSc, hroot.it]; simp]; rfl, (by with_reducible repeat (first | exact ex_refl _ | exact ex_more9 | apply ex_alloc | apply ex_plus | apply ex_drew | apply ex_drewN))⟩
  have hres : sameSc s s' = (sameNds s.ns s'.ns && sameMss s.ms s'.ms) := by simp only [sameSc, hbg.it, hbt.it, hroot.it]; simp
  replace hres := Hush9.mk hres
  go_enter Tryz.func19, Tryz.ntmps19
  go_wp2_with (first | (go_at_call 52; refine (plus_post (gsame_calls _ _ _ _ _ _ x.gr s.g _ _ _ _ _ _ x'.gr s'.g _ (hG.ex (by with_reducible repeat (first | exact ex_refl _ | exact ex_more9 | apply ex_alloc | apply ex_plus | apply ex_drew | apply ex_drewN))) (hG'.ex (by with_reducible repeat (first | exact ex_refl _ | exact ex_more9 | apply ex_alloc | apply ex_plus | apply ex_drew | apply ex_drewN))))).mono ?_; rintro e w' ⟨rfl, nx, rfl⟩; rw [hbg.it]) | (go_at_call 53; refine (sameAll9_calls _ _ _ _ _ _ x.th x'.th s.ts s'.ts _ (tl.ex (by with_reducible repeat (first | exact ex_refl _ | exact ex_more9 | apply ex_alloc | apply ex_plus | apply ex_drew | apply ex_drewN))) (tl'.ex (by with_reducible repeat (first | exact ex_refl _ | exact ex_more9 | apply ex_alloc | apply ex_plus | apply ex_drew | apply ex_drewN))) (ts.ex (by with_reducible repeat (first | exact ex_refl _ | exact ex_more9 | apply ex_alloc | apply ex_plus | apply ex_drew | apply ex_drewN))) (ts'.ex (by with_reducible repeat (first | exact ex_refl _ | exact ex_more9 | apply ex_alloc | apply ex_plus | apply ex_drew | apply ex_drewN))) n3 n3').mono ?_; rintro e w' ⟨rfl, nx, rfl⟩; rw [hbt.it]))
  go_loopw [5] (fun i wr => ∃ k : Nat, k ≤ nn ∧ i = .int .i64 k ∧ (∀ j, j < k → sameNd (nth nd0 s.ns j) (nth nd0 s'.ns j) = true) ∧ ∃ y, wr = plus ((w.alloc (.cells #[.slice ga gn gc, .slice ka kn kc, .slice na nn nc, .slice ma mn mc, .slice ta tn tc, .int .i64 r0, .int .i64 r1] 34)).alloc (.cells #[.slice ga' gn' gc', .slice ka' kn' kc', .slice na' nn nc', .slice ma' mn mc', .slice ta' tn' tc', .int .i64 r0', .int .i64 r1'] 34)) y) (fun i _ => nn - (intOf i).toNat)
  case atStart => exact ⟨0, Nat.zero_le _, rfl, fun j hj => by omega, (by with_reducible repeat (first | exact ex_refl _ | exact ex_more9 | apply ex_alloc | apply ex_plus | apply ex_drew | apply ex_drewN))⟩
  case round =>
    obtain ⟨k, hk, rfl, hs1, y, rfl⟩ := hrel
    by_cases hkl : k < nn
    · obtain ⟨g, off, rfl, hgl, hcell⟩ := nl.some (by omega)
      obtain ⟨g', off', rfl, hgl', hcell'⟩ := nl'.some (by omega)
      have ik : (k : Int) < (nn : Int) := by omega
      have hp := lay_part (d := nh0) nlen fN_c hcell hkl
      have hp' := lay_part (d := nh0) nlen' fN_c hcell' hkl
      have a1 := ns.one k (by omega)
      have a2 := ns'.one k (by omega)
      have s1 := hS.n k (by omega)
      have s2 := hS'.n k (by omega)
      have hP := Hush9.mk (And.intro hp (And.intro hp' (And.intro hcell hcell')))
      clear hp hp' hcell hcell'
      cases hq : sameNd (nth nd0 s.ns k) (nth nd0 s'.ns k)
      · replace hq := Hush9.mk hq
        go_wp2
        refine region_plus (by kernel_rfl) (by kernel_rfl) ?_
        (repeat (first | (refine wpQuiet_load_part rfl 56 _ rfl g (off + k * 33) rfl (fN (nth nh0 x.nh k)) _ (fun w' hw j v hj => cell_ex (ex_trans (by with_reducible repeat (first | exact ex_refl _ | exact ex_more9 | apply ex_alloc | apply ex_plus | apply ex_drew | apply ex_drewN)) hw) (hP.it.1 j v hj)) Tryz.underlying56 rfl (by kernel_rfl) ?_; simp only [Act.put, List.setIfInBounds_toArray, List.set_cons_succ, List.set_cons_zero]) | (refine wpQuiet_load_part rfl 56 _ rfl g' (off' + k * 33) rfl (fN (nth nh0 x'.nh k)) _ (fun w' hw j v hj => cell_ex (ex_trans (by with_reducible repeat (first | exact ex_refl _ | exact ex_more9 | apply ex_alloc | apply ex_plus | apply ex_drew | apply ex_drewN)) hw) (hP.it.2.1 j v hj)) Tryz.underlying56 rfl (by kernel_rfl) ?_; simp only [Act.put, List.setIfInBounds_toArray, List.set_cons_succ, List.set_cons_zero]) | go_big_quiet_step ((go_at_call 24; exact q9_of (sameNd_at (h := nth nh0 x.nh k) (h2 := nth nh0 x'.nh k) (a1.ex (by with_reducible repeat (first | exact ex_refl _ | exact ex_more9 | apply ex_alloc | apply ex_plus | apply ex_drew | apply ex_drewN))) (a2.ex (by with_reducible repeat (first | exact ex_refl _ | exact ex_more9 | apply ex_alloc | apply ex_plus | apply ex_drew | apply ex_drewN))) s1 s2 hq.it)))))
        refine wpQuiet_nil ?_
        rintro _ ⟨x2, rfl⟩
        go_wp2
        go_ret
        exact ⟨by rw [hres.it, show sameNds s.ns s'.ns = false from same_not (k := k) (by omega) hq.it]; rfl, (by with_reducible repeat (first | exact ex_refl _ | exact ex_more9 | apply ex_alloc | apply ex_plus | apply ex_drew | apply ex_drewN))⟩
      · replace hq := Hush9.mk hq
        go_wp2
        refine region_plus (by kernel_rfl) (by kernel_rfl) ?_
        (repeat (first | (refine wpQuiet_load_part rfl 56 _ rfl g (off + k * 33) rfl (fN (nth nh0 x.nh k)) _ (fun w' hw j v hj => cell_ex (ex_trans (by with_reducible repeat (first | exact ex_refl _ | exact ex_more9 | apply ex_alloc | apply ex_plus | apply ex_drew | apply ex_drewN)) hw) (hP.it.1 j v hj)) Tryz.underlying56 rfl (by kernel_rfl) ?_; simp only [Act.put, List.setIfInBounds_toArray, List.set_cons_succ, List.set_cons_zero]) | (refine wpQuiet_load_part rfl 56 _ rfl g' (off' + k * 33) rfl (fN (nth nh0 x'.nh k)) _ (fun w' hw j v hj => cell_ex (ex_trans (by with_reducible repeat (first | exact ex_refl _ | exact ex_more9 | apply ex_alloc | apply ex_plus | apply ex_drew | apply ex_drewN)) hw) (hP.it.2.1 j v hj)) Tryz.underlying56 rfl (by kernel_rfl) ?_; simp only [Act.put, List.setIfInBounds_toArray, List.set_cons_succ, List.set_cons_zero]) | go_big_quiet_step ((go_at_call 24; exact q9_of (sameNd_at (h := nth nh0 x.nh k) (h2 := nth nh0 x'.nh k) (a1.ex (by with_reducible repeat (first | exact ex_refl _ | exact ex_more9 | apply ex_alloc | apply ex_plus | apply ex_drew | apply ex_drewN))) (a2.ex (by with_reducible repeat (first | exact ex_refl _ | exact ex_more9 | apply ex_alloc | apply ex_plus | apply ex_drew | apply ex_drewN))) s1 s2 hq.it)))))
        refine wpQuiet_nil ?_
        rintro _ ⟨x2, rfl⟩
        go_wp2
        go_roundw
        case rel => exact ⟨k + 1, by omega, by go_num, upto_succ9 hs1 hq.it, (by with_reducible repeat (first | exact ex_refl _ | exact ex_more9 | apply ex_alloc | apply ex_plus | apply ex_drew | apply ex_drewN))⟩
        case measure => simp [intOf]; omega
    · have ik : ¬ (k : Int) < (nn : Int) := by omega
      obtain rfl : nn = k := by omega
      have hall : sameNds s.ns s'.ns = true := same_all (by omega) (fun j hj => hs1 j (by omega))
      replace hall := Hush9.mk hall
      clear hs1
      go_wp2
      go_loopw [6] (fun i wr => ∃ k : Nat, k ≤ mn ∧ i = .int .i64 k ∧ (∀ j, j < k → sameMs (nth ms0 s.ms j) (nth ms0 s'.ms j) = true) ∧ ∃ y, wr = plus ((w.alloc (.cells #[.slice ga gn gc, .slice ka kn kc, .slice na nn nc, .slice ma mn mc, .slice ta tn tc, .int .i64 r0, .int .i64 r1] 34)).alloc (.cells #[.slice ga' gn' gc', .slice ka' kn' kc', .slice na' nn nc', .slice ma' mn mc', .slice ta' tn' tc', .int .i64 r0', .int .i64 r1'] 34)) y) (fun i _ => mn - (intOf i).toNat)
      case atStart => exact ⟨0, Nat.zero_le _, rfl, fun j hj => by omega, (by with_reducible repeat (first | exact ex_refl _ | exact ex_more9 | apply ex_alloc | apply ex_plus | apply ex_drew | apply ex_drewN))⟩
      case round =>
        obtain ⟨k2, hk2, rfl, hs2, y2, rfl⟩ := hrel
        by_cases hkl2 : k2 < mn
        · obtain ⟨g, off, rfl, hgl, hcell⟩ := ml.some (by omega)
          obtain ⟨g', off', rfl, hgl', hcell'⟩ := ml'.some (by omega)
          obtain ⟨c0, c1, c2⟩ := cellMh mlen hcell hkl2
          obtain ⟨d0, d1, d2⟩ := cellMh mlen' hcell' hkl2
          have ik2 : (k2 : Int) < (mn : Int) := by omega
          have a1 := ms.one k2 (by omega)
          have a2 := ms'.one k2 (by omega)
          have s1 := hS.m k2 (by omega)
          have s2 := hS'.m k2 (by omega)
          cases hq : sameMs (nth ms0 s.ms k2) (nth ms0 s'.ms k2)
          · replace hq := Hush9.mk hq
            go_wp2
            refine region_plus (by kernel_rfl) (by kernel_rfl) ?_
            (repeat (go_big_quiet_step ((go_at_call 54; exact plus_of (rsameM_at hq.it (a1.ex (by with_reducible repeat (first | exact ex_refl _ | exact ex_more9 | apply ex_alloc | apply ex_plus | apply ex_drew | apply ex_drewN))) (a2.ex (by with_reducible repeat (first | exact ex_refl _ | exact ex_more9 | apply ex_alloc | apply ex_plus | apply ex_drew | apply ex_drewN))) s1 s2)))))
            refine wpQuiet_nil ?_
            rintro _ ⟨x2, rfl⟩
            go_wp2
            go_ret
            exact ⟨by rw [hres.it, hall.it, show sameMss s.ms s'.ms = false from same_not (k := k2) (by omega) hq.it]; rfl, (by with_reducible repeat (first | exact ex_refl _ | exact ex_more9 | apply ex_alloc | apply ex_plus | apply ex_drew | apply ex_drewN))⟩
          · replace hq := Hush9.mk hq
            go_wp2
            refine region_plus (by kernel_rfl) (by kernel_rfl) ?_
            (repeat (go_big_quiet_step ((go_at_call 54; exact plus_of (rsameM_at hq.it (a1.ex (by with_reducible repeat (first | exact ex_refl _ | exact ex_more9 | apply ex_alloc | apply ex_plus | apply ex_drew | apply ex_drewN))) (a2.ex (by with_reducible repeat (first | exact ex_refl _ | exact ex_more9 | apply ex_alloc | apply ex_plus | apply ex_drew | apply ex_drewN))) s1 s2)))))
            refine wpQuiet_nil ?_
            rintro _ ⟨x2, rfl⟩
            go_wp2
            go_roundw
            case rel => exact ⟨k2 + 1, by omega, by go_num, upto_succ9 hs2 hq.it, (by with_reducible repeat (first | exact ex_refl _ | exact ex_more9 | apply ex_alloc | apply ex_plus | apply ex_drew | apply ex_drewN))⟩
            case measure => simp [intOf]; omega
        · have ik2 : ¬ (k2 : Int) < (mn : Int) := by omega
          go_wp2
          go_ret
          exact ⟨by rw [hres.it, hall.it, show sameMss s.ms s'.ms = true from same_all (by omega) (fun j hj => hs2 j (by omega))]; rfl, (by with_reducible repeat (first | exact ex_refl _ | exact ex_more9 | apply ex_alloc | apply ex_plus | apply ex_drew | apply ex_drewN))⟩

end

section


open Go.RowKit

/-- no node that names a mesh has children; a slot that nobody has holds the zero node, others one that may be -/
def leafKids (n : Nd) (r : List (Int × Int)) : Bool := decide (n.f.kind = 5) && decide (0 < r.length)

def nodeOk (s : Sc) (k : Nat) : Bool :=
  !(((nth dSl s.g.sl k).live && !mayNd s.ms.length s.ts.length (nth nd0 s.ns k)) || ((!(nth dSl s.g.sl k).live && !sameNd (nth nd0 s.ns k) nd0) || leafKids (nth nd0 s.ns k) (nth [] s.g.ks k)))

def nodesOk (s : Sc) : Bool := (List.range s.ns.length).all (nodeOk s)

def rootOk (s : Sc) (h : Int × Int) : Bool := decide (h = (0, 0)) || heldIn s.g.sl h.1 h.2

def maySc (s : Sc) : Bool := grOk s.g && (decide (s.ns.length = s.g.ks.length) && (storesOk s && (nodesOk s && rootOk s s.root)))

def scErr (s : Sc) : Int := if maySc s then 0 else 8

/-- an edit -/
structure Ed where
  kind : Int
  h : Int × Int
  c : Int × Int
  p : Int
  n : Nd
  m : Ms
  t : Tp

/-- a thing put at a place, or behind the others -/
def putAt {α : Type} (l : List α) (k : Nat) (x : α) : List α := if k < l.length then l.set k x else l ++ [x]

def placeErr (at_ : Int) (many most : Nat) (wrong : Int) : Int :=
  if at_ < -1 ∨ (many : Int) ≤ at_ then 2 else if wrong ≠ 0 then wrong else if at_ < 0 ∧ most ≤ many then 9 else 0

def placeAt (at_ : Int) (many : Nat) : Nat := if at_ < 0 then many else at_.toNat

def texErr (t : Tp) : Int := if mayTp t then 0 else 8

/-- the error of an edit, of a scene that may be -/
def edErr (s : Sc) (e : Ed) : Int :=
  if e.kind = 1 then (if mayNd s.ms.length s.ts.length e.n then makeGErr s.g else 8)
  else if e.kind = 2 then (if heldIn s.g.sl e.h.1 e.h.2 then (if mayNd s.ms.length s.ts.length e.n then (if leafKids e.n (nth [] s.g.ks e.h.1.toNat) then 100 else 0) else 8) else 50)
  else if e.kind = 3 then (if heldIn s.g.sl e.h.1 e.h.2 ∧ heldIn s.g.sl e.c.1 e.c.2 then (if (nth nd0 s.ns e.h.1.toNat).f.kind = 5 then 100 else linkErr s.g e.h e.c e.p) else 50)
  else if e.kind = 4 then unlinkErr s.g e.h e.p
  else if e.kind = 5 then askErr s.g e.h e.h
  else if e.kind = 6 then placeErr e.p s.ms.length 32 (msErr e.m)
  else if e.kind = 7 then placeErr e.p s.ts.length 16 (texErr e.t)
  else if e.kind = 8 then (if rootOk s e.h then 0 else 50)
  else 2

/-- the scene behind an edit that is not refused -/
def edSc (s : Sc) (e : Ed) : Sc :=
  if e.kind = 1 then ⟨makeG s.g, putAt s.ns (freeAt s.g.sl) e.n, s.ms, s.ts, s.root⟩
  else if e.kind = 2 then ⟨s.g, s.ns.set e.h.1.toNat e.n, s.ms, s.ts, s.root⟩
  else if e.kind = 3 then ⟨linkG s.g e.h e.c e.p, s.ns, s.ms, s.ts, s.root⟩
  else if e.kind = 4 then ⟨unlinkG s.g e.h e.p, s.ns, s.ms, s.ts, s.root⟩
  else if e.kind = 5 then ⟨killG s.g e.h, s.ns.set e.h.1.toNat nd0, s.ms, s.ts, if s.root = e.h then (0, 0) else s.root⟩
  else if e.kind = 6 then ⟨s.g, s.ns, putAt s.ms (placeAt e.p s.ms.length) e.m, s.ts, s.root⟩
  else if e.kind = 7 then ⟨s.g, s.ns, s.ms, putAt s.ts (placeAt e.p s.ts.length) e.t, s.root⟩
  else ⟨s.g, s.ns, s.ms, s.ts, e.h⟩

def doErr (s : Sc) (e : Ed) : Int := if maySc s then edErr s e else 8

def doSc (s : Sc) (e : Ed) : Sc := if doErr s e = 0 then edSc s e else sc0

def tookH (s : Sc) (e : Ed) : Int × Int := if doErr s e = 0 ∧ e.kind = 1 then (mkSlot s.g.sl, mkGen s.g.sl) else (0, 0)

def tookN (s : Sc) (e : Ed) : Int := if doErr s e = 0 then (if e.kind = 6 then placeAt e.p s.ms.length else if e.kind = 7 then placeAt e.p s.ts.length else 0) else 0

/-! What is the same -/
theorem sameI_eq {a b : List Int} (h : sameI a b = true) : a = b := by
  simp only [sameI, sameL, Bool.and_eq_true, beq_iff_eq, List.all_eq_true, List.mem_range] at h
  exact ext_nth (d := 0) h.1 fun k hk => by simpa [eqI] using h.2 k hk

theorem sameNd_eq {a b : Nd} (h : sameNd a b = true) : a = b := by
  obtain ⟨⟨ak, am, ao, ac, ae, ay⟩, af⟩ := a
  obtain ⟨⟨bk, bm, bo, bc, be, by_⟩, bf⟩ := b
  simp only [sameNd, Bool.and_eq_true, decide_eq_true_eq] at h
  obtain ⟨rfl, hm, rfl, hc, hf, rfl, hs⟩ := h
  rw [eqmt_eq hm, eqv_eq hc, sameI_eq hf, eqsy_eq hs]

/-! What may be -/
theorem may_parts {s : Sc} (h : maySc s = true) : grOk s.g = true ∧ s.ns.length = s.g.ks.length ∧ storesOk s = true ∧ (∀ k, k < s.ns.length → nodeOk s k = true) ∧ rootOk s s.root = true := by
  simp only [maySc, nodesOk, Bool.and_eq_true, decide_eq_true_eq, List.all_eq_true, List.mem_range] at h
  exact ⟨h.1, h.2.1, h.2.2.1, h.2.2.2.1, h.2.2.2.2⟩

end

end Go.Proofs.YtcekcihijdipoaaGreat
