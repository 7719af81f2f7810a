/- What mesh.Check and Tris give. -/
import Derived.Test.YtkiahgkfgcjkgaaMesh9
namespace Go.Proofs.Ytkiahgkfgcjkgaa
open Go.RowKit Go.ChangeShapes Go.WideShapes Go.ChangeAt
set_option linter.unusedSimpArgs false
set_option linter.unusedVariables false
attribute [local go_sem] plus_size plus_drew dn_set dn_alloc dn_plus plus_dn cell_plus frozen_plus set_plus cell_alloc frozen_alloc set_alloc

attribute [local go_sem] eqarr_34 nearr_34 larr_34

attribute [local go_sem] eqarr_50 nearr_50 larr_50

attribute [local go_sem] isnil_26

attribute [local go_sem] isnil_29

attribute [local go_sem] isnil_30

attribute [local go_sem] isnil_31

set_option maxHeartbeats 4000000 in
theorem check_calls (va ua pa : Option Addr) (vn vc un uc pn pc : Nat) (hs : List PH) (m : Ms) (w : World) (hm : MeshAt w ⟨va, vn, vc, ua, un, uc, pa, pn, pc⟩ hs m) :
    Calls Try.prog 11 #[.agg #[.slice va vn vc, .slice ua un uc, .slice pa pn pc]] w fun e w' => e = .returned (.int .i64 (msErr m)) ∧ Below w.heap.size w w' := by
  have hvl : Lay fV w va vn m.vs := hm.vl
  have hul : Lay f2 w ua un m.uv := hm.ul
  have hpl : Lay fP w pa pn hs := hm.pl
  have hpp : PrimsAt w hs m.ps := hm.pp
  have lv := hvl.len
  have lu := hul.len
  have lp := hpl.len
  have lq := hpp.len
  by_cases h1 : 64 < vn
  · rw [show msErr m = 4 from if_pos (.inl (by omega))]
    have i1 : (64 : Int) < (vn : Int) := by omega
    go_enter Try.func11, Try.ntmps11
    go_wp2_with (first | (go_at_call 26; refine (plus_post (corners_calls _ _ _ m.vs _ (hvl.ex (by with_reducible repeat (first | exact ex_refl _ | exact ex_more | apply ex_alloc | apply ex_plus | apply ex_drew | apply ex_drewN))) (by omega))).mono ?_; rintro e w' ⟨rfl, nx, rfl⟩; rw [hv]) | (go_at_call 27; refine (plus_post (places_calls _ _ _ m.uv _ (hul.ex (by with_reducible repeat (first | exact ex_refl _ | exact ex_more | apply ex_alloc | apply ex_plus | apply ex_drew | apply ex_drewN))) (by omega))).mono ?_; rintro e w' ⟨rfl, nx, rfl⟩; rw [hu]) | (go_at_call 28; refine (plus_post (primsMay_calls _ _ _ _ _ _ _ _ _ hs m.ps _ (hpl.ex (by with_reducible repeat (first | exact ex_refl _ | exact ex_more | apply ex_alloc | apply ex_plus | apply ex_drew | apply ex_drewN))) (hpp.ex (by with_reducible repeat (first | exact ex_refl _ | exact ex_more | apply ex_alloc | apply ex_plus | apply ex_drew | apply ex_drewN))) (by omega) (by omega))).mono ?_; rintro e w' ⟨rfl, nx, rfl⟩; rw [hp]))
    go_ret
    exact ⟨rfl, by with_reducible repeat (first | exact Below.refl _ _ | apply ba | apply bp | apply bd | apply bn)⟩
  have i1 : ¬ (64 : Int) < (vn : Int) := by omega
  by_cases h2 : 64 < un
  · rw [show msErr m = 4 from if_pos (.inr (.inl (by omega)))]
    have i2 : (64 : Int) < (un : Int) := by omega
    go_enter Try.func11, Try.ntmps11
    go_wp2_with (first | (go_at_call 26; refine (plus_post (corners_calls _ _ _ m.vs _ (hvl.ex (by with_reducible repeat (first | exact ex_refl _ | exact ex_more | apply ex_alloc | apply ex_plus | apply ex_drew | apply ex_drewN))) (by omega))).mono ?_; rintro e w' ⟨rfl, nx, rfl⟩; rw [hv]) | (go_at_call 27; refine (plus_post (places_calls _ _ _ m.uv _ (hul.ex (by with_reducible repeat (first | exact ex_refl _ | exact ex_more | apply ex_alloc | apply ex_plus | apply ex_drew | apply ex_drewN))) (by omega))).mono ?_; rintro e w' ⟨rfl, nx, rfl⟩; rw [hu]) | (go_at_call 28; refine (plus_post (primsMay_calls _ _ _ _ _ _ _ _ _ hs m.ps _ (hpl.ex (by with_reducible repeat (first | exact ex_refl _ | exact ex_more | apply ex_alloc | apply ex_plus | apply ex_drew | apply ex_drewN))) (hpp.ex (by with_reducible repeat (first | exact ex_refl _ | exact ex_more | apply ex_alloc | apply ex_plus | apply ex_drew | apply ex_drewN))) (by omega) (by omega))).mono ?_; rintro e w' ⟨rfl, nx, rfl⟩; rw [hp]))
    go_ret
    exact ⟨rfl, by with_reducible repeat (first | exact Below.refl _ _ | apply ba | apply bp | apply bd | apply bn)⟩
  have i2 : ¬ (64 : Int) < (un : Int) := by omega
  by_cases h3 : 16 < pn
  · rw [show msErr m = 4 from if_pos (.inr (.inr (by omega)))]
    have i3 : (16 : Int) < (pn : Int) := by omega
    go_enter Try.func11, Try.ntmps11
    go_wp2_with (first | (go_at_call 26; refine (plus_post (corners_calls _ _ _ m.vs _ (hvl.ex (by with_reducible repeat (first | exact ex_refl _ | exact ex_more | apply ex_alloc | apply ex_plus | apply ex_drew | apply ex_drewN))) (by omega))).mono ?_; rintro e w' ⟨rfl, nx, rfl⟩; rw [hv]) | (go_at_call 27; refine (plus_post (places_calls _ _ _ m.uv _ (hul.ex (by with_reducible repeat (first | exact ex_refl _ | exact ex_more | apply ex_alloc | apply ex_plus | apply ex_drew | apply ex_drewN))) (by omega))).mono ?_; rintro e w' ⟨rfl, nx, rfl⟩; rw [hu]) | (go_at_call 28; refine (plus_post (primsMay_calls _ _ _ _ _ _ _ _ _ hs m.ps _ (hpl.ex (by with_reducible repeat (first | exact ex_refl _ | exact ex_more | apply ex_alloc | apply ex_plus | apply ex_drew | apply ex_drewN))) (hpp.ex (by with_reducible repeat (first | exact ex_refl _ | exact ex_more | apply ex_alloc | apply ex_plus | apply ex_drew | apply ex_drewN))) (by omega) (by omega))).mono ?_; rintro e w' ⟨rfl, nx, rfl⟩; rw [hp]))
    go_ret
    exact ⟨rfl, by with_reducible repeat (first | exact Below.refl _ _ | apply ba | apply bp | apply bd | apply bn)⟩
  have i3 : ¬ (16 : Int) < (pn : Int) := by omega
  have hM : ¬ (64 < m.vs.length ∨ 64 < m.uv.length ∨ 16 < m.ps.length) := by omega
  rw [msErr, if_neg hM]
  cases hv : m.vs.all vOk
  · rw [show msOk m = false by simp [msOk, hv]]
    go_enter Try.func11, Try.ntmps11
    go_wp2_with (first | (go_at_call 26; refine (plus_post (corners_calls _ _ _ m.vs _ (hvl.ex (by with_reducible repeat (first | exact ex_refl _ | exact ex_more | apply ex_alloc | apply ex_plus | apply ex_drew | apply ex_drewN))) (by omega))).mono ?_; rintro e w' ⟨rfl, nx, rfl⟩; rw [hv]) | (go_at_call 27; refine (plus_post (places_calls _ _ _ m.uv _ (hul.ex (by with_reducible repeat (first | exact ex_refl _ | exact ex_more | apply ex_alloc | apply ex_plus | apply ex_drew | apply ex_drewN))) (by omega))).mono ?_; rintro e w' ⟨rfl, nx, rfl⟩; rw [hu]) | (go_at_call 28; refine (plus_post (primsMay_calls _ _ _ _ _ _ _ _ _ hs m.ps _ (hpl.ex (by with_reducible repeat (first | exact ex_refl _ | exact ex_more | apply ex_alloc | apply ex_plus | apply ex_drew | apply ex_drewN))) (hpp.ex (by with_reducible repeat (first | exact ex_refl _ | exact ex_more | apply ex_alloc | apply ex_plus | apply ex_drew | apply ex_drewN))) (by omega) (by omega))).mono ?_; rintro e w' ⟨rfl, nx, rfl⟩; rw [hp]))
    go_ret
    exact ⟨rfl, by with_reducible repeat (first | exact Below.refl _ _ | apply ba | apply bp | apply bd | apply bn)⟩
  by_cases he : un = vn
  rotate_left
  · rw [show msOk m = false by (have : ¬ m.uv.length = m.vs.length := by omega); simp [msOk, this]]
    have ie : ¬ (un : Int) = (vn : Int) := by omega
    have de : ((un : Int) == (vn : Int)) = false := by rw [beq_eq_false_iff_ne]; omega
    go_enter Try.func11, Try.ntmps11
    go_wp2_with (first | (go_at_call 26; refine (plus_post (corners_calls _ _ _ m.vs _ (hvl.ex (by with_reducible repeat (first | exact ex_refl _ | exact ex_more | apply ex_alloc | apply ex_plus | apply ex_drew | apply ex_drewN))) (by omega))).mono ?_; rintro e w' ⟨rfl, nx, rfl⟩; rw [hv]) | (go_at_call 27; refine (plus_post (places_calls _ _ _ m.uv _ (hul.ex (by with_reducible repeat (first | exact ex_refl _ | exact ex_more | apply ex_alloc | apply ex_plus | apply ex_drew | apply ex_drewN))) (by omega))).mono ?_; rintro e w' ⟨rfl, nx, rfl⟩; rw [hu]) | (go_at_call 28; refine (plus_post (primsMay_calls _ _ _ _ _ _ _ _ _ hs m.ps _ (hpl.ex (by with_reducible repeat (first | exact ex_refl _ | exact ex_more | apply ex_alloc | apply ex_plus | apply ex_drew | apply ex_drewN))) (hpp.ex (by with_reducible repeat (first | exact ex_refl _ | exact ex_more | apply ex_alloc | apply ex_plus | apply ex_drew | apply ex_drewN))) (by omega) (by omega))).mono ?_; rintro e w' ⟨rfl, nx, rfl⟩; rw [hp]))
    go_ret
    exact ⟨rfl, by with_reducible repeat (first | exact Below.refl _ _ | apply ba | apply bp | apply bd | apply bn)⟩
  subst he
  cases hu : m.uv.all uOk
  · rw [show msOk m = false by simp [msOk, hu]]
    go_enter Try.func11, Try.ntmps11
    go_wp2_with (first | (go_at_call 26; refine (plus_post (corners_calls _ _ _ m.vs _ (hvl.ex (by with_reducible repeat (first | exact ex_refl _ | exact ex_more | apply ex_alloc | apply ex_plus | apply ex_drew | apply ex_drewN))) (by omega))).mono ?_; rintro e w' ⟨rfl, nx, rfl⟩; rw [hv]) | (go_at_call 27; refine (plus_post (places_calls _ _ _ m.uv _ (hul.ex (by with_reducible repeat (first | exact ex_refl _ | exact ex_more | apply ex_alloc | apply ex_plus | apply ex_drew | apply ex_drewN))) (by omega))).mono ?_; rintro e w' ⟨rfl, nx, rfl⟩; rw [hu]) | (go_at_call 28; refine (plus_post (primsMay_calls _ _ _ _ _ _ _ _ _ hs m.ps _ (hpl.ex (by with_reducible repeat (first | exact ex_refl _ | exact ex_more | apply ex_alloc | apply ex_plus | apply ex_drew | apply ex_drewN))) (hpp.ex (by with_reducible repeat (first | exact ex_refl _ | exact ex_more | apply ex_alloc | apply ex_plus | apply ex_drew | apply ex_drewN))) (by omega) (by omega))).mono ?_; rintro e w' ⟨rfl, nx, rfl⟩; rw [hp]))
    go_ret
    exact ⟨rfl, by with_reducible repeat (first | exact Below.refl _ _ | apply ba | apply bp | apply bd | apply bn)⟩
  cases hp : psOk un m.ps
  · rw [show msOk m = false by rw [msOk, lv, hp, Bool.and_false]]
    go_enter Try.func11, Try.ntmps11
    go_wp2_with (first | (go_at_call 26; refine (plus_post (corners_calls _ _ _ m.vs _ (hvl.ex (by with_reducible repeat (first | exact ex_refl _ | exact ex_more | apply ex_alloc | apply ex_plus | apply ex_drew | apply ex_drewN))) (by omega))).mono ?_; rintro e w' ⟨rfl, nx, rfl⟩; rw [hv]) | (go_at_call 27; refine (plus_post (places_calls _ _ _ m.uv _ (hul.ex (by with_reducible repeat (first | exact ex_refl _ | exact ex_more | apply ex_alloc | apply ex_plus | apply ex_drew | apply ex_drewN))) (by omega))).mono ?_; rintro e w' ⟨rfl, nx, rfl⟩; rw [hu]) | (go_at_call 28; refine (plus_post (primsMay_calls _ _ _ _ _ _ _ _ _ hs m.ps _ (hpl.ex (by with_reducible repeat (first | exact ex_refl _ | exact ex_more | apply ex_alloc | apply ex_plus | apply ex_drew | apply ex_drewN))) (hpp.ex (by with_reducible repeat (first | exact ex_refl _ | exact ex_more | apply ex_alloc | apply ex_plus | apply ex_drew | apply ex_drewN))) (by omega) (by omega))).mono ?_; rintro e w' ⟨rfl, nx, rfl⟩; rw [hp]))
    go_ret
    exact ⟨rfl, by with_reducible repeat (first | exact Below.refl _ _ | apply ba | apply bp | apply bd | apply bn)⟩
  rw [show msOk m = true by rw [msOk, lv, lu, hv, hu, hp]; simp]
  go_enter Try.func11, Try.ntmps11
  go_wp2_with (first | (go_at_call 26; refine (plus_post (corners_calls _ _ _ m.vs _ (hvl.ex (by with_reducible repeat (first | exact ex_refl _ | exact ex_more | apply ex_alloc | apply ex_plus | apply ex_drew | apply ex_drewN))) (by omega))).mono ?_; rintro e w' ⟨rfl, nx, rfl⟩; rw [hv]) | (go_at_call 27; refine (plus_post (places_calls _ _ _ m.uv _ (hul.ex (by with_reducible repeat (first | exact ex_refl _ | exact ex_more | apply ex_alloc | apply ex_plus | apply ex_drew | apply ex_drewN))) (by omega))).mono ?_; rintro e w' ⟨rfl, nx, rfl⟩; rw [hu]) | (go_at_call 28; refine (plus_post (primsMay_calls _ _ _ _ _ _ _ _ _ hs m.ps _ (hpl.ex (by with_reducible repeat (first | exact ex_refl _ | exact ex_more | apply ex_alloc | apply ex_plus | apply ex_drew | apply ex_drewN))) (hpp.ex (by with_reducible repeat (first | exact ex_refl _ | exact ex_more | apply ex_alloc | apply ex_plus | apply ex_drew | apply ex_drewN))) (by omega) (by omega))).mono ?_; rintro e w' ⟨rfl, nx, rfl⟩; rw [hp]))
  go_ret
  exact ⟨rfl, by with_reducible repeat (first | exact Below.refl _ _ | apply ba | apply bp | apply bd | apply bn)⟩

theorem check_many (va ua pa : Option Addr) (vn vc un uc pn pc : Nat) (hs : List PH) (w : World) (h1 : 64 < vn) : Calls Try.prog 11 #[.agg #[.slice va vn vc, .slice ua un uc, .slice pa pn pc]] w fun e w' => e = .returned (.int .i64 4) ∧ Below w.heap.size w w' := by
  have i1 : (64 : Int) < (vn : Int) := by omega
  go_enter Try.func11, Try.ntmps11
  go_wp2
  go_ret
  exact ⟨rfl, by with_reducible repeat (first | exact Below.refl _ _ | apply ba | apply bp | apply bd | apply bn)⟩

set_option maxHeartbeats 4000000 in
theorem tris_calls (va ua pa : Option Addr) (vn vc un uc pn pc : Nat) (hs : List PH) (m : Ms) (w : World) (hm : MeshAt w ⟨va, vn, vc, ua, un, uc, pa, pn, pc⟩ hs m) :
    Calls Try.prog 17 #[.agg #[.slice va vn vc, .slice ua un uc, .slice pa pn pc]] w fun e w' => RetT fV w (msList m) (.int .i64 (msErr m)) e w' := by
  have lp := hm.pl.len
  have lq := hm.pp.len
  have hpl := hm.pl
  have hpp := hm.pp
  simp only at lp lq hpl hpp
  obtain ⟨ps, hps⟩ : ∃ ps, m.ps = ps := ⟨_, rfl⟩
  rw [hps] at hpp lq
  rcases msErr_or m with he | he | he
  · rw [he]
    go_enter Try.func17, Try.ntmps17
    go_wp2_with (go_at_call 11; refine (plus_post (check_calls _ _ _ _ _ _ _ _ _ hs m _ (hm.ex (by with_reducible repeat (first | exact ex_refl _ | exact ex_more | apply ex_alloc | apply ex_plus | apply ex_drew | apply ex_drewN))))).mono ?_; rintro e w' ⟨rfl, nx, rfl⟩; rw [he])
    exact bodyPost_ret (v := .tuple #[.slice none 0 0, .int .i64 4]) (by simp [results, Try.results17, go_sem]) rfl ⟨_, _, _, rfl, (by with_reducible repeat (first | exact ex_refl _ | exact ex_more | apply ex_alloc | apply ex_plus | apply ex_drew | apply ex_drewN)), by rw [msList_bad (by rw [he]; decide)]; exact Lay.nil⟩
  · rw [he]
    go_enter Try.func17, Try.ntmps17
    go_wp2_with (go_at_call 11; refine (plus_post (check_calls _ _ _ _ _ _ _ _ _ hs m _ (hm.ex (by with_reducible repeat (first | exact ex_refl _ | exact ex_more | apply ex_alloc | apply ex_plus | apply ex_drew | apply ex_drewN))))).mono ?_; rintro e w' ⟨rfl, nx, rfl⟩; rw [he])
    exact bodyPost_ret (v := .tuple #[.slice none 0 0, .int .i64 40]) (by simp [results, Try.results17, go_sem]) rfl ⟨_, _, _, rfl, (by with_reducible repeat (first | exact ex_refl _ | exact ex_more | apply ex_alloc | apply ex_plus | apply ex_drew | apply ex_drewN)), by rw [msList_bad (by rw [he]; decide)]; exact Lay.nil⟩
  have hg := msErr_good he
  have hpn : pn ≤ 16 := by
    have := hg.1
    unfold msMany at this
    rw [hps] at this
    omega
  have hall := psOk_all (msOk_ps hg.2)
  rw [hps] at hall
  have herr := ps_errs hall
  go_enter Try.func17, Try.ntmps17
  go_wp2_with (go_at_call 11; refine (plus_post (check_calls _ _ _ _ _ _ _ _ _ hs m _ (hm.ex (by with_reducible repeat (first | exact ex_refl _ | exact ex_more | apply ex_alloc | apply ex_plus | apply ex_drew | apply ex_drewN))))).mono ?_; rintro e w' ⟨rfl, nx, rfl⟩; rw [he])
  go_loopw [5, 16] (fun v i wr => ∃ (k : Nat) (ao' : Option Addr) (cap' : Nat), k ≤ pn ∧ v = .slice ao' (trisN ps k) cap' ∧ i = .int .i64 k ∧ (∃ y, wr = plus (plus (w.alloc (.cells #[.slice va vn vc, .slice ua un uc, .slice pa pn pc] 33)) nx) y) ∧ Own 34 3 fV (plus (w.alloc (.cells #[.slice va vn vc, .slice ua un uc, .slice pa pn pc] 33)) nx) wr ao' (trisN ps k) cap' (tris ps k)) (fun _ i _ => pn - (intOf i).toNat)
  case atStart => exact ⟨0, none, 0, Nat.zero_le _, rfl, rfl, (by with_reducible repeat (first | exact ex_refl _ | exact ex_more | apply ex_alloc | apply ex_plus | apply ex_drew | apply ex_drewN)), own_nil⟩
  case round =>
    obtain ⟨k, ao', cap', hk, rfl, rfl, ⟨x, rfl⟩, hown⟩ := hrel
    have hT := trisN_le (ps := ps) (k := k) (by omega) (fun j hj => herr j (by omega))
    by_cases hkl : k < pn
    · obtain ⟨g, off, rfl, hg, hcell⟩ := hpl.some (by omega)
      have hsucc := trisN_succ (ps := ps) (k := k) (by omega)
      have hsucc2 := tris_succ (ps := ps) (k := k) (by omega)
      have he2 := herr k (by omega)
      have h200 := ix_200 he2
      have h201 := prTris_200 he2
      obtain ⟨d0, d1⟩ := cellP hpl.len hcell (k := k) hkl
      have hp := hpp.one k (by rw [hpl.len]; exact hkl)
      generalize hpe : nth dPr ps k = p at *
      generalize hhe : nth dPH hs k = hh at *
      obtain ⟨kind, ao1, n1, cap1⟩ := hh
      obtain ⟨kind2, ix⟩ := p
      obtain ⟨hk1, hk2, hk3, hk4, hk5, hk6⟩ := hp
      simp only at d0 d1 hk1 hk2 hk3 hk4 hk5 hk6
      subst hk1
      have ik : (k : Int) < (pn : Int) := by omega
      have hixl := hk6.len
      go_wp2_with (first | (go_at_call 25; refine (triangles_calls _ _ _ _ ix _ (hk6.ex (by with_reducible repeat (first | exact ex_refl _ | exact ex_more | apply ex_alloc | apply ex_plus | apply ex_drew | apply ex_drewN | (apply ex_on; assumption)))) (by omega)).mono ?_; rintro e w1 ⟨ao2, m1, cap2, rfl, hw1, hl1⟩; have hm1 := hl1.len) | (at_builtin; refine wpList_append_lay (T := (plus (w.alloc (.cells #[.slice va vn vc, .slice ua un uc, .slice (some ⟨g, off, none⟩) pn pc] 33)) nx)) rfl _ _ rfl kinT fV_c fV_1 rfl (by with_reducible repeat (first | exact ex_refl _ | exact ex_more | apply ex_alloc | apply ex_plus | apply ex_drew | apply ex_drewN | (apply ex_on; assumption))) (hown.ex (by with_reducible repeat (first | exact ex_refl _ | exact ex_more | apply ex_alloc | apply ex_plus | apply ex_drew | apply ex_drewN | (apply ex_on; assumption)))) rfl hl1 (by omega) (by decide) ?_; intro ao' cap' y' hown'))
      go_roundw
      case rel => exact ⟨k + 1, ao', cap', by omega, by rw [hsucc, hm1], by go_num, (by with_reducible repeat (first | exact ex_refl _ | exact ex_more | apply ex_alloc | apply ex_plus | apply ex_drew | apply ex_drewN | (apply ex_on; assumption))), by rw [hsucc2, hsucc, hm1]; exact hown'⟩
      case measure => simp [intOf]; omega
    · have ik : ¬ (k : Int) < (pn : Int) := by omega
      obtain rfl : k = pn := by omega
      go_wp2
      exact bodyPost_ret (v := .tuple #[.slice ao' (trisN ps k) cap', .int .i64 0]) (by simp [results, Try.results17, go_sem]) rfl ⟨_, _, _, rfl, (by with_reducible repeat (first | exact ex_refl _ | exact ex_more | apply ex_alloc | apply ex_plus | apply ex_drew | apply ex_drewN | (apply ex_on; assumption))), by rw [msList_good he, hps, ← lq, lp]; exact hown.lay⟩

end Go.Proofs.Ytkiahgkfgcjkgaa
