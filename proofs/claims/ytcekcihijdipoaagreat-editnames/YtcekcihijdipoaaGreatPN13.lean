/- A pack of texts: Mesh8, Mesh9, Mesh10, EdCk1, Nodes6, Nodes7, NodesS, Nodes8, Nodes9. -/
import Derived.Test.YtcekcihijdipoaaGreatPN5
import Derived.Test.YtcekcihijdipoaaGreatPN6
import Derived.Test.YtcekcihijdipoaaGreatPN12
import Derived.Test.YtcekcihijdipoaaGreatPN8
import Derived.Test.YtcekcihijdipoaaGreatPN9
namespace Go.Proofs.YtcekcihijdipoaaGreat

section


open Go.RowKit Go.ChangeShapes Go.WideShapes Go.ChangeAt

set_option linter.unusedSimpArgs false

set_option linter.unusedVariables false

attribute [local go_sem] plus_size plus_drew dn_set dn_alloc dn_plus plus_dn cell_plus frozen_plus set_plus cell_alloc frozen_alloc set_alloc

attribute [local go_sem] eqarr_40 nearr_40 larr_40

attribute [local go_sem] eqarr_137 nearr_137 larr_137

attribute [local go_sem] isnil_47

attribute [local go_sem] isnil_57

attribute [local go_sem] isnil_58

attribute [local go_sem] isnil_59

set_option maxHeartbeats 2000000 in
theorem corners_calls (ao : Option Addr) (n cap : Nat) (l : List V3) (w : World) (hl : Lay fV w ao n l) (hn : n ≤ 10000) :
    Calls Tryz.prog 134 #[.slice ao n cap] w fun e w' => e = .returned (.bool (l.all vOk)) ∧ Below w.heap.size w w' := by
  have hlen := hl.len
  go_enter Tryz.func134, Tryz.ntmps134
  go_wp2
  go_loopw [7] (fun i wr => ∃ k : Nat, k ≤ n ∧ i = .int .i64 k ∧ (∀ j, j < k → vOk (nth zeroV l j) = true) ∧ ∃ x, wr = plus w x) (fun i _ => n - (intOf i).toNat)
  case atStart => exact ⟨0, Nat.zero_le _, rfl, fun j hj => by omega, skM⟩
  case round =>
    obtain ⟨k, hk, rfl, hs, x, rfl⟩ := hrel
    by_cases hkl : k < n
    · obtain ⟨g, off, rfl, hg, hcell⟩ := hl.some (by omega)
      obtain ⟨c0, c1, c2⟩ := cellV hlen hcell hkl
      have ik : (k : Int) < (n : Int) := by omega
      cases ho : vOk (nth zeroV l k)
      · have ho' : [(nth zeroV l k).x, (nth zeroV l k).y, (nth zeroV l k).z].all (inR (-1024) 1024) = false := ho
        go_wp2_with (go_at_call 172; refine (plus_post (within_calls (-1024) 1024 _ 3 _ [(nth zeroV l k).x, (nth zeroV l k).y, (nth zeroV l k).z] _ ⟨rfl, .inr ⟨_, 0, rfl, by simp [go_sem]; try omega, fun jj u hu => by match jj, hu with | 0, hu => (simp [fI] at hu; subst hu; simp [go_sem, ↓IntWalk.iteOmega]) | 1, hu => (simp [fI] at hu; subst hu; simp [go_sem, ↓IntWalk.iteOmega]) | 2, hu => (simp [fI] at hu; subst hu; simp [go_sem, ↓IntWalk.iteOmega]) | jj + 3, hu => simp [fI] at hu⟩⟩ (by decide))).mono ?_; rintro e w' ⟨rfl, nx, rfl⟩; rw [ho'])
        go_ret
        exact ⟨by rw [all_not (d := zeroV) (k := k) (by omega) ho]; rfl, skB⟩
      · have ho' : [(nth zeroV l k).x, (nth zeroV l k).y, (nth zeroV l k).z].all (inR (-1024) 1024) = true := ho
        go_wp2_with (go_at_call 172; refine (plus_post (within_calls (-1024) 1024 _ 3 _ [(nth zeroV l k).x, (nth zeroV l k).y, (nth zeroV l k).z] _ ⟨rfl, .inr ⟨_, 0, rfl, by simp [go_sem]; try omega, fun jj u hu => by match jj, hu with | 0, hu => (simp [fI] at hu; subst hu; simp [go_sem, ↓IntWalk.iteOmega]) | 1, hu => (simp [fI] at hu; subst hu; simp [go_sem, ↓IntWalk.iteOmega]) | 2, hu => (simp [fI] at hu; subst hu; simp [go_sem, ↓IntWalk.iteOmega]) | jj + 3, hu => simp [fI] at hu⟩⟩ (by decide))).mono ?_; rintro e w' ⟨rfl, nx, rfl⟩; rw [ho'])
        go_roundw
        case rel => exact ⟨k + 1, by omega, by go_num, upto_succM hs ho, skM⟩
        case measure => simp [intOf]; omega
    · have ik : ¬ (k : Int) < (n : Int) := by omega
      go_wp2
      go_ret
      exact ⟨by rw [all_yes (d := zeroV) (fun j hj => hs j (by omega))]; rfl, skB⟩

set_option maxHeartbeats 2000000 in
theorem places_calls (ao : Option Addr) (n cap : Nat) (l : List (Int × Int)) (w : World) (hl : Lay f2 w ao n l) (hn : n ≤ 10000) :
    Calls Tryz.prog 135 #[.slice ao n cap] w fun e w' => e = .returned (.bool (l.all uOk)) ∧ Below w.heap.size w w' := by
  have hlen := hl.len
  go_enter Tryz.func135, Tryz.ntmps135
  go_wp2
  go_loopw [7] (fun i wr => ∃ k : Nat, k ≤ n ∧ i = .int .i64 k ∧ (∀ j, j < k → uOk (nth (0, 0) l j) = true) ∧ ∃ x, wr = plus w x) (fun i _ => n - (intOf i).toNat)
  case atStart => exact ⟨0, Nat.zero_le _, rfl, fun j hj => by omega, skM⟩
  case round =>
    obtain ⟨k, hk, rfl, hs, x, rfl⟩ := hrel
    by_cases hkl : k < n
    · obtain ⟨g, off, rfl, hg, hcell⟩ := hl.some (by omega)
      obtain ⟨c0, c1⟩ := cell2 hlen hcell hkl
      have ik : (k : Int) < (n : Int) := by omega
      cases ho : uOk (nth (0, 0) l k)
      · have ho' : [(nth (0, 0) l k).1, (nth (0, 0) l k).2].all (inR (0) 255) = false := ho
        go_wp2_with (go_at_call 172; refine (plus_post (within_calls (0) 255 _ 2 _ [(nth (0, 0) l k).1, (nth (0, 0) l k).2] _ ⟨rfl, .inr ⟨_, 0, rfl, by simp [go_sem]; try omega, fun jj u hu => by match jj, hu with | 0, hu => (simp [fI] at hu; subst hu; simp [go_sem, ↓IntWalk.iteOmega]) | 1, hu => (simp [fI] at hu; subst hu; simp [go_sem, ↓IntWalk.iteOmega]) | jj + 2, hu => simp [fI] at hu⟩⟩ (by decide))).mono ?_; rintro e w' ⟨rfl, nx, rfl⟩; rw [ho'])
        go_ret
        exact ⟨by rw [all_not (d := (0, 0)) (k := k) (by omega) ho]; rfl, skB⟩
      · have ho' : [(nth (0, 0) l k).1, (nth (0, 0) l k).2].all (inR (0) 255) = true := ho
        go_wp2_with (go_at_call 172; refine (plus_post (within_calls (0) 255 _ 2 _ [(nth (0, 0) l k).1, (nth (0, 0) l k).2] _ ⟨rfl, .inr ⟨_, 0, rfl, by simp [go_sem]; try omega, fun jj u hu => by match jj, hu with | 0, hu => (simp [fI] at hu; subst hu; simp [go_sem, ↓IntWalk.iteOmega]) | 1, hu => (simp [fI] at hu; subst hu; simp [go_sem, ↓IntWalk.iteOmega]) | jj + 2, hu => simp [fI] at hu⟩⟩ (by decide))).mono ?_; rintro e w' ⟨rfl, nx, rfl⟩; rw [ho'])
        go_roundw
        case rel => exact ⟨k + 1, by omega, by go_num, upto_succM hs ho, skM⟩
        case measure => simp [intOf]; omega
    · have ik : ¬ (k : Int) < (n : Int) := by omega
      go_wp2
      go_ret
      exact ⟨by rw [all_yes (d := (0, 0)) (fun j hj => hs j (by omega))]; rfl, skB⟩

end

section


open Go.RowKit Go.ChangeShapes Go.WideShapes Go.ChangeAt

set_option linter.unusedSimpArgs false

set_option linter.unusedVariables false

attribute [local go_sem] plus_size plus_drew dn_set dn_alloc dn_plus plus_dn cell_plus frozen_plus set_plus cell_alloc frozen_alloc set_alloc

attribute [local go_sem] eqarr_40 nearr_40 larr_40

attribute [local go_sem] eqarr_137 nearr_137 larr_137

attribute [local go_sem] isnil_47

attribute [local go_sem] isnil_57

attribute [local go_sem] isnil_58

attribute [local go_sem] isnil_59

set_option maxHeartbeats 4000000 in
theorem primsMay_calls (va ua pa : Option Addr) (vn vc un uc pn pc : Nat) (hs : List PH) (ps : List Pr) (w : World) (hpl : Lay fP w pa pn hs) (hpp : PrimsAt w hs ps) (hvn : vn ≤ 10000) (hpn : pn ≤ 10000) :
    Calls Tryz.prog 136 #[.agg #[.slice va vn vc, .slice ua un uc, .slice pa pn pc]] w fun e w' => e = .returned (.bool (psOk vn ps)) ∧ Below w.heap.size w w' := by
  have hpl1 := hpl.len
  have hpl2 := hpp.len
  have iwv : IntKind.i64.wrap ((vn : Int) - 1) = (vn : Int) - 1 := by
    simp [IntKind.wrap, IntKind.bits, IntKind.signed]
    omega
  go_enter Tryz.func136, Tryz.ntmps136
  go_wp2
  go_loopw [3, 11] (fun c i wr => ∃ k : Nat, k ≤ pn ∧ c = .int .i64 (trisN ps k) ∧ i = .int .i64 k ∧ (∀ j, j < k → pOk vn (nth dPr ps j) = true) ∧ ∃ x, wr = plus (w.alloc (.cells #[.slice va vn vc, .slice ua un uc, .slice pa pn pc] 61)) x) (fun _ i _ => pn - (intOf i).toNat)
  case atStart => exact ⟨0, Nat.zero_le _, rfl, rfl, fun j hj => by omega, skM⟩
  case round =>
    obtain ⟨k, hk, rfl, rfl, hs1, x, rfl⟩ := hrel
    have hT := trisN_le (ps := ps) (k := k) (by omega) (ps_errs hs1)
    by_cases hkl : k < pn
    · obtain ⟨g, off, rfl, hg, hcell⟩ := hpl.some (by omega)
      have hsucc := trisN_succ (ps := ps) (k := k) (by omega)
      obtain ⟨d0, d1⟩ := cellP hpl.len hcell (k := k) hkl
      have hp := hpp.one k (by rw [hpl.len]; exact hkl)
      generalize hpe : nth dPr ps k = p at *
      generalize hhe : nth dPH hs k = hh at *
      obtain ⟨kind, ao1, n1, cap1⟩ := hh
      obtain ⟨kind2, ix⟩ := p
      obtain ⟨hk1, hk2, hk3, hk4, hk5, hk6⟩ := hp
      simp only at d0 d1 hk1 hk2 hk3 hk4 hk5 hk6
      subst hk1
      have ik : (k : Int) < (pn : Int) := by omega
      have hixl := hk6.len
      rcases prErr_or ⟨kind, ix⟩ with he | he | he | he
      · go_wp2_with (go_at_call 173; refine (mprim_calls _ _ _ _ ix _ hk2 (hk6.ex snM) hk4).mono ?_; rintro e w1 ⟨ao2, m1, cap2, rfl, hw1, hl1⟩; rw [he]; have a0 : w1.cell? ⟨w.heap.size, 0, none⟩ = some (.slice va vn vc) := cell_ex hw1 (by simp [go_sem, ↓IntWalk.iteOmega]); have a1 : w1.cell? ⟨w.heap.size + 1 + (blocks x).size, 1, none⟩ = some (.slice ao1 n1 cap1) := cell_ex hw1 (by simp [go_sem, ↓IntWalk.iteOmega]); have hz1 := cell_lt a0; have hz2 := cell_lt a1)
        go_ret
        exact ⟨by rw [show psOk vn ps = false by rw [psOk, all_not (d := dPr) (k := k) (by omega) (by rw [hpe]; exact pOk_not1 (by rw [he]; decide)), Bool.false_and]]; rfl, below_ex snM⟩
      · go_wp2_with (go_at_call 173; refine (mprim_calls _ _ _ _ ix _ hk2 (hk6.ex snM) hk4).mono ?_; rintro e w1 ⟨ao2, m1, cap2, rfl, hw1, hl1⟩; rw [he]; have a0 : w1.cell? ⟨w.heap.size, 0, none⟩ = some (.slice va vn vc) := cell_ex hw1 (by simp [go_sem, ↓IntWalk.iteOmega]); have a1 : w1.cell? ⟨w.heap.size + 1 + (blocks x).size, 1, none⟩ = some (.slice ao1 n1 cap1) := cell_ex hw1 (by simp [go_sem, ↓IntWalk.iteOmega]); have hz1 := cell_lt a0; have hz2 := cell_lt a1)
        go_ret
        exact ⟨by rw [show psOk vn ps = false by rw [psOk, all_not (d := dPr) (k := k) (by omega) (by rw [hpe]; exact pOk_not1 (by rw [he]; decide)), Bool.false_and]]; rfl, below_ex snM⟩
      · go_wp2_with (go_at_call 173; refine (mprim_calls _ _ _ _ ix _ hk2 (hk6.ex snM) hk4).mono ?_; rintro e w1 ⟨ao2, m1, cap2, rfl, hw1, hl1⟩; rw [he]; have a0 : w1.cell? ⟨w.heap.size, 0, none⟩ = some (.slice va vn vc) := cell_ex hw1 (by simp [go_sem, ↓IntWalk.iteOmega]); have a1 : w1.cell? ⟨w.heap.size + 1 + (blocks x).size, 1, none⟩ = some (.slice ao1 n1 cap1) := cell_ex hw1 (by simp [go_sem, ↓IntWalk.iteOmega]); have hz1 := cell_lt a0; have hz2 := cell_lt a1)
        go_ret
        exact ⟨by rw [show psOk vn ps = false by rw [psOk, all_not (d := dPr) (k := k) (by omega) (by rw [hpe]; exact pOk_not1 (by rw [he]; decide)), Bool.false_and]]; rfl, below_ex snM⟩
      have h200 := ix_200 he
      have h200' := prTris_200 he
      simp only at h200
      cases hi : ix.all (inR 0 ((vn : Int) - 1))
      · go_wp2_with (first | (go_at_call 173; refine (mprim_calls _ _ _ _ ix _ hk2 (hk6.ex snM) hk4).mono ?_; rintro e w1 ⟨ao2, m1, cap2, rfl, hw1, hl1⟩; rw [he]; have a0 : w1.cell? ⟨w.heap.size, 0, none⟩ = some (.slice va vn vc) := cell_ex hw1 (by simp [go_sem, ↓IntWalk.iteOmega]); have a1 : w1.cell? ⟨w.heap.size + 1 + (blocks x).size, 1, none⟩ = some (.slice ao1 n1 cap1) := cell_ex hw1 (by simp [go_sem, ↓IntWalk.iteOmega]); have hz1 := cell_lt a0; have hz2 := cell_lt a1) | (go_at_call 172; refine (plus_post (within_calls _ _ _ _ _ ix _ (hk6.ex snM) (by omega))).mono ?_; rintro e w' ⟨rfl, nx, rfl⟩; rw [hi]))
        go_ret
        exact ⟨by rw [show psOk vn ps = false by rw [psOk, all_not (d := dPr) (k := k) (by omega) (by rw [hpe]; exact pOk_not2 hi), Bool.false_and]]; rfl, below_ex snM⟩
      · have hm1 : ∀ m1 : Nat, (prList ⟨kind, ix⟩).length = m1 → trisN ps (k + 1) = trisN ps k + m1 := by
          intro m1 h1
          rw [prList_good he] at h1
          rw [hsucc, h1]
        go_wp2_with (first | (go_at_call 173; refine (mprim_calls _ _ _ _ ix _ hk2 (hk6.ex snM) hk4).mono ?_; rintro e w1 ⟨ao2, m1, cap2, rfl, hw1, hl1⟩; rw [he]; have a0 : w1.cell? ⟨w.heap.size, 0, none⟩ = some (.slice va vn vc) := cell_ex hw1 (by simp [go_sem, ↓IntWalk.iteOmega]); have a1 : w1.cell? ⟨w.heap.size + 1 + (blocks x).size, 1, none⟩ = some (.slice ao1 n1 cap1) := cell_ex hw1 (by simp [go_sem, ↓IntWalk.iteOmega]); have hz1 := cell_lt a0; have hz2 := cell_lt a1; have hsc := hm1 m1 hl1.len; have iws : IntKind.i64.wrap ((trisN ps k : Int) + (m1 : Int)) = (trisN ps k : Int) + (m1 : Int) := wrap_leM (by omega)) | (go_at_call 172; refine (plus_post (within_calls _ _ _ _ _ ix _ (hk6.ex snM) (by omega))).mono ?_; rintro e w' ⟨rfl, nx, rfl⟩; rw [hi]))
        go_roundw
        case rel => exact ⟨k + 1, by omega, by go_num, by go_num, upto_succM hs1 (by rw [hpe]; exact pOk_yes he hi), snM⟩
        case measure => simp [intOf]; omega
    · have ik : ¬ (k : Int) < (pn : Int) := by omega
      obtain rfl : k = pn := by omega
      by_cases h64 : trisN ps k ≤ 64
      · have i64 : (trisN ps k : Int) ≤ 64 := by omega
        go_wp2
        go_ret
        exact ⟨by rw [show psOk vn ps = true by rw [psOk, all_yes (d := dPr) (fun j hj => hs1 j (by omega)), Bool.true_and, ← hpl2, hpl1, decide_eq_true h64]]; rfl, skB⟩
      · have i64 : ¬ (trisN ps k : Int) ≤ 64 := by omega
        have d64 : decide ((trisN ps k : Int) ≤ 64) = false := decide_eq_false i64
        go_wp2
        go_ret
        exact ⟨by rw [show psOk vn ps = false by rw [psOk, ← hpl2, hpl1, decide_eq_false h64, Bool.and_false]]; rfl, skB⟩

end

section


open Go.RowKit Go.ChangeShapes Go.WideShapes Go.ChangeAt

set_option linter.unusedSimpArgs false

set_option linter.unusedVariables false

attribute [local go_sem] plus_size plus_drew dn_set dn_alloc dn_plus plus_dn cell_plus frozen_plus set_plus cell_alloc frozen_alloc set_alloc

attribute [local go_sem] eqarr_40 nearr_40 larr_40

attribute [local go_sem] eqarr_137 nearr_137 larr_137

attribute [local go_sem] isnil_47

attribute [local go_sem] isnil_57

attribute [local go_sem] isnil_58

attribute [local go_sem] isnil_59

set_option maxHeartbeats 4000000 in
theorem check_callsM (va ua pa : Option Addr) (vn vc un uc pn pc : Nat) (hs : List PH) (m : Ms) (w : World) (hm : MeshAt w ⟨va, vn, vc, ua, un, uc, pa, pn, pc⟩ hs m) :
    Calls Tryz.prog 77 #[.agg #[.slice va vn vc, .slice ua un uc, .slice pa pn pc]] w fun e w' => e = .returned (.int .i64 (msErr m)) ∧ Below w.heap.size w w' := by
  have hvl : Lay fV w va vn m.vs := hm.vl
  have hul : Lay f2 w ua un m.uv := hm.ul
  have hpl : Lay fP w pa pn hs := hm.pl
  have hpp : PrimsAt w hs m.ps := hm.pp
  have lv := hvl.len
  have lu := hul.len
  have lp := hpl.len
  have lq := hpp.len
  by_cases h1 : 64 < vn
  · rw [show msErr m = 4 from if_pos (.inl (by omega))]
    have i1 : (64 : Int) < (vn : Int) := by omega
    go_enter Tryz.func77, Tryz.ntmps77
    go_wp2_with (first | (go_at_call 134; refine (plus_post (corners_calls _ _ _ m.vs _ (hvl.ex skM) (by omega))).mono ?_; rintro e w' ⟨rfl, nx, rfl⟩; rw [hv]) | (go_at_call 135; refine (plus_post (places_calls _ _ _ m.uv _ (hul.ex skM) (by omega))).mono ?_; rintro e w' ⟨rfl, nx, rfl⟩; rw [hu]) | (go_at_call 136; refine (plus_post (primsMay_calls _ _ _ _ _ _ _ _ _ hs m.ps _ (hpl.ex skM) (hpp.ex skM) (by omega) (by omega))).mono ?_; rintro e w' ⟨rfl, nx, rfl⟩; rw [hp]))
    go_ret
    exact ⟨rfl, skB⟩
  have i1 : ¬ (64 : Int) < (vn : Int) := by omega
  by_cases h2 : 64 < un
  · rw [show msErr m = 4 from if_pos (.inr (.inl (by omega)))]
    have i2 : (64 : Int) < (un : Int) := by omega
    go_enter Tryz.func77, Tryz.ntmps77
    go_wp2_with (first | (go_at_call 134; refine (plus_post (corners_calls _ _ _ m.vs _ (hvl.ex skM) (by omega))).mono ?_; rintro e w' ⟨rfl, nx, rfl⟩; rw [hv]) | (go_at_call 135; refine (plus_post (places_calls _ _ _ m.uv _ (hul.ex skM) (by omega))).mono ?_; rintro e w' ⟨rfl, nx, rfl⟩; rw [hu]) | (go_at_call 136; refine (plus_post (primsMay_calls _ _ _ _ _ _ _ _ _ hs m.ps _ (hpl.ex skM) (hpp.ex skM) (by omega) (by omega))).mono ?_; rintro e w' ⟨rfl, nx, rfl⟩; rw [hp]))
    go_ret
    exact ⟨rfl, skB⟩
  have i2 : ¬ (64 : Int) < (un : Int) := by omega
  by_cases h3 : 16 < pn
  · rw [show msErr m = 4 from if_pos (.inr (.inr (by omega)))]
    have i3 : (16 : Int) < (pn : Int) := by omega
    go_enter Tryz.func77, Tryz.ntmps77
    go_wp2_with (first | (go_at_call 134; refine (plus_post (corners_calls _ _ _ m.vs _ (hvl.ex skM) (by omega))).mono ?_; rintro e w' ⟨rfl, nx, rfl⟩; rw [hv]) | (go_at_call 135; refine (plus_post (places_calls _ _ _ m.uv _ (hul.ex skM) (by omega))).mono ?_; rintro e w' ⟨rfl, nx, rfl⟩; rw [hu]) | (go_at_call 136; refine (plus_post (primsMay_calls _ _ _ _ _ _ _ _ _ hs m.ps _ (hpl.ex skM) (hpp.ex skM) (by omega) (by omega))).mono ?_; rintro e w' ⟨rfl, nx, rfl⟩; rw [hp]))
    go_ret
    exact ⟨rfl, skB⟩
  have i3 : ¬ (16 : Int) < (pn : Int) := by omega
  have hM : ¬ (64 < m.vs.length ∨ 64 < m.uv.length ∨ 16 < m.ps.length) := by omega
  rw [msErr, if_neg hM]
  cases hv : m.vs.all vOk
  · rw [show msOk m = false by simp [msOk, hv]]
    go_enter Tryz.func77, Tryz.ntmps77
    go_wp2_with (first | (go_at_call 134; refine (plus_post (corners_calls _ _ _ m.vs _ (hvl.ex skM) (by omega))).mono ?_; rintro e w' ⟨rfl, nx, rfl⟩; rw [hv]) | (go_at_call 135; refine (plus_post (places_calls _ _ _ m.uv _ (hul.ex skM) (by omega))).mono ?_; rintro e w' ⟨rfl, nx, rfl⟩; rw [hu]) | (go_at_call 136; refine (plus_post (primsMay_calls _ _ _ _ _ _ _ _ _ hs m.ps _ (hpl.ex skM) (hpp.ex skM) (by omega) (by omega))).mono ?_; rintro e w' ⟨rfl, nx, rfl⟩; rw [hp]))
    go_ret
    exact ⟨rfl, skB⟩
  by_cases he : un = vn
  rotate_left
  · rw [show msOk m = false by (have : ¬ m.uv.length = m.vs.length := by omega); simp [msOk, this]]
    have ie : ¬ (un : Int) = (vn : Int) := by omega
    have de : ((un : Int) == (vn : Int)) = false := by rw [beq_eq_false_iff_ne]; omega
    go_enter Tryz.func77, Tryz.ntmps77
    go_wp2_with (first | (go_at_call 134; refine (plus_post (corners_calls _ _ _ m.vs _ (hvl.ex skM) (by omega))).mono ?_; rintro e w' ⟨rfl, nx, rfl⟩; rw [hv]) | (go_at_call 135; refine (plus_post (places_calls _ _ _ m.uv _ (hul.ex skM) (by omega))).mono ?_; rintro e w' ⟨rfl, nx, rfl⟩; rw [hu]) | (go_at_call 136; refine (plus_post (primsMay_calls _ _ _ _ _ _ _ _ _ hs m.ps _ (hpl.ex skM) (hpp.ex skM) (by omega) (by omega))).mono ?_; rintro e w' ⟨rfl, nx, rfl⟩; rw [hp]))
    go_ret
    exact ⟨rfl, skB⟩
  subst he
  cases hu : m.uv.all uOk
  · rw [show msOk m = false by simp [msOk, hu]]
    go_enter Tryz.func77, Tryz.ntmps77
    go_wp2_with (first | (go_at_call 134; refine (plus_post (corners_calls _ _ _ m.vs _ (hvl.ex skM) (by omega))).mono ?_; rintro e w' ⟨rfl, nx, rfl⟩; rw [hv]) | (go_at_call 135; refine (plus_post (places_calls _ _ _ m.uv _ (hul.ex skM) (by omega))).mono ?_; rintro e w' ⟨rfl, nx, rfl⟩; rw [hu]) | (go_at_call 136; refine (plus_post (primsMay_calls _ _ _ _ _ _ _ _ _ hs m.ps _ (hpl.ex skM) (hpp.ex skM) (by omega) (by omega))).mono ?_; rintro e w' ⟨rfl, nx, rfl⟩; rw [hp]))
    go_ret
    exact ⟨rfl, skB⟩
  cases hp : psOk un m.ps
  · rw [show msOk m = false by rw [msOk, lv, hp, Bool.and_false]]
    go_enter Tryz.func77, Tryz.ntmps77
    go_wp2_with (first | (go_at_call 134; refine (plus_post (corners_calls _ _ _ m.vs _ (hvl.ex skM) (by omega))).mono ?_; rintro e w' ⟨rfl, nx, rfl⟩; rw [hv]) | (go_at_call 135; refine (plus_post (places_calls _ _ _ m.uv _ (hul.ex skM) (by omega))).mono ?_; rintro e w' ⟨rfl, nx, rfl⟩; rw [hu]) | (go_at_call 136; refine (plus_post (primsMay_calls _ _ _ _ _ _ _ _ _ hs m.ps _ (hpl.ex skM) (hpp.ex skM) (by omega) (by omega))).mono ?_; rintro e w' ⟨rfl, nx, rfl⟩; rw [hp]))
    go_ret
    exact ⟨rfl, skB⟩
  rw [show msOk m = true by rw [msOk, lv, lu, hv, hu, hp]; simp]
  go_enter Tryz.func77, Tryz.ntmps77
  go_wp2_with (first | (go_at_call 134; refine (plus_post (corners_calls _ _ _ m.vs _ (hvl.ex skM) (by omega))).mono ?_; rintro e w' ⟨rfl, nx, rfl⟩; rw [hv]) | (go_at_call 135; refine (plus_post (places_calls _ _ _ m.uv _ (hul.ex skM) (by omega))).mono ?_; rintro e w' ⟨rfl, nx, rfl⟩; rw [hu]) | (go_at_call 136; refine (plus_post (primsMay_calls _ _ _ _ _ _ _ _ _ hs m.ps _ (hpl.ex skM) (hpp.ex skM) (by omega) (by omega))).mono ?_; rintro e w' ⟨rfl, nx, rfl⟩; rw [hp]))
  go_ret
  exact ⟨rfl, skB⟩

end

section


open Go.RowKit Go.ChangeShapes Go.WideShapes Go.ChangeAt

set_option linter.unusedSimpArgs false

set_option linter.unusedVariables false

attribute [local go_sem] plus_size plus_drew dn_set dn_alloc dn_plus plus_dn cell_plus frozen_plus set_plus cell_alloc frozen_alloc set_alloc

set_option maxRecDepth 100000 in
theorem kidsFit_calls (h : NH) (ao : Option Addr) (n cap : Nat) {b : Bool} (hb : (!decide (h.f.kind = 5) || decide (n = 0)) = b) (w : World) : Calls Tryz.prog 120 #[vN h, .slice ao n cap] w fun e w' => e = .returned (.bool b) ∧ ∃ y, w' = plus w y := by
  subst hb
  show Calls Tryz.prog 120 #[.agg (fN h).toArray, .slice ao n cap] w fun e w' => e = .returned (.bool (!decide (h.f.kind = 5) || decide (n = 0))) ∧ ∃ y, w' = plus w y
  have hkind := kind_at h
  obtain ⟨kd, hk⟩ : ∃ k, h.f.kind = k := ⟨_, rfl⟩
  rw [hk] at hkind ⊢
  obtain ⟨cs, hcs⟩ : ∃ cs, fN h = cs := ⟨_, rfl⟩
  rw [hcs] at hkind ⊢
  clear hcs hk
  by_cases h5 : kd = 5
  · subst h5
    by_cases h0 : n = 0
    · subst h0
      go_enter Tryz.func120, Tryz.ntmps120
      go_upto_region 1 with fail
      refine name_w (fun w' => (∃ y, w' = plus w y) ∧ w'.heap[w.heap.size]? = some (.cells cs.toArray 56)) ⟨sk9, blk_new2 _ _⟩ ?_
      rintro w1 ⟨x1, k1⟩
      have p0 := cell_of k1 hkind
      go_wp2
      go_ret
      exact ⟨rfl, ex_trans x1 sk9⟩
    · have d0 : ((n : Int) == 0) = false := by rw [beq_eq_false_iff_ne]; omega
      go_enter Tryz.func120, Tryz.ntmps120
      go_upto_region 1 with fail
      refine name_w (fun w' => (∃ y, w' = plus w y) ∧ w'.heap[w.heap.size]? = some (.cells cs.toArray 56)) ⟨sk9, blk_new2 _ _⟩ ?_
      rintro w1 ⟨x1, k1⟩
      have p0 := cell_of k1 hkind
      go_wp2
      go_ret
      exact ⟨by simp [h0], ex_trans x1 sk9⟩
  · have d5 : (kd == 5) = false := by rw [beq_eq_false_iff_ne]; exact h5
    go_enter Tryz.func120, Tryz.ntmps120
    go_upto_region 1 with fail
    refine name_w (fun w' => (∃ y, w' = plus w y) ∧ w'.heap[w.heap.size]? = some (.cells cs.toArray 56)) ⟨sk9, blk_new2 _ _⟩ ?_
    rintro w1 ⟨x1, k1⟩
    have p0 := cell_of k1 hkind
    go_wp2
    go_ret
    exact ⟨by simp [h5], ex_trans x1 sk9⟩

def fits (s : Sc) (k : Nat) (n : Nd) : Bool := if (nth dSl s.g.sl k).live then mayNd s.ms.length s.ts.length n && (!decide (n.f.kind = 5) || decide ((nth [] s.g.ks k).length = 0)) else sameNd n nd0

theorem fits_node {s : Sc} {k : Nat} : nodeOk s k = fits s k (nth nd0 s.ns k) := by
  unfold fits nodeOk leafKids
  cases hv : (nth dSl s.g.sl k).live
  · cases hs : sameNd (nth nd0 s.ns k) nd0
    · rfl
    · rw [sameNd_eq hs]
      rfl
  · cases mayNd s.ms.length s.ts.length (nth nd0 s.ns k)
    · rfl
    · by_cases h5 : (nth nd0 s.ns k).f.kind = 5 <;> by_cases h0 : (nth [] s.g.ks k).length = 0 <;> simp [h5, h0] <;> omega

set_option maxRecDepth 100000 in
set_option maxHeartbeats 4000000 in
theorem fits_calls (gs go ks ko : Nat) (na ma ta : Option Addr) (gn gc kn kc nn nc mn mc tn tc : Nat) (r0 r1 : Int) (k : Nat) (h : NH) (n : Nd) (lv : Bool) (ra : Option Addr) (rn rc : Nat) {v : Bool} (w : World) (hN : NodeAt w h n) (s1 : h.n ≤ 10000)
    (kv : w.cell? ⟨gs, go + k * 2 + 1, none⟩ = some (.bool lv)) (kr : w.cell? ⟨ks, ko + k, none⟩ = some (.slice ra rn rc)) (hk : k < gn) (hk2 : k < kn) (hv : (if lv then mayNd mn tn n && (!decide (n.f.kind = 5) || decide (rn = 0)) else sameNd n nd0) = v) :
    Calls Tryz.prog 74 #[.agg #[.slice (some ⟨gs, go, none⟩) gn gc, .slice (some ⟨ks, ko, none⟩) kn kc, .slice na nn nc, .slice ma mn mc, .slice ta tn tc, .int .i64 r0, .int .i64 r1], .int .i64 k, vN h] w fun e w' => e = .returned (.bool v) ∧ ∃ y, w' = plus w y := by
  show Calls Tryz.prog 74 #[.agg #[.slice (some ⟨gs, go, none⟩) gn gc, .slice (some ⟨ks, ko, none⟩) kn kc, .slice na nn nc, .slice ma mn mc, .slice ta tn tc, .int .i64 r0, .int .i64 r1], .int .i64 k, .agg (fN h).toArray] w fun e w' => e = .returned (.bool v) ∧ ∃ y, w' = plus w y
  have ik : (k : Int) < (gn : Int) := by omega
  have ik2 : (k : Int) < (kn : Int) := by omega
  have hkd : n.f.kind = h.f.kind := by rw [hN.f]
  rw [hkd] at hv
  obtain ⟨bm, hbm⟩ : ∃ b, mayNd mn tn n = b := ⟨_, rfl⟩
  obtain ⟨bf, hbf⟩ : ∃ b, (!decide (h.f.kind = 5) || decide (rn = 0)) = b := ⟨_, rfl⟩
  rw [hbm, hbf] at hv
  replace hv := Hush9.mk hv
  have kB := build_node
  obtain ⟨b, hb⟩ : ∃ b, w.heap.size = b := ⟨_, rfl⟩
  go_enter Tryz.func74, Tryz.ntmps74
  go_upto_region 1 with fail
  refine name_w (fun w' => (∃ y, w' = plus w y) ∧ w'.heap[b]? = some (.cells #[.slice (some ⟨gs, go, none⟩) gn gc, .slice (some ⟨ks, ko, none⟩) kn kc, .slice na nn nc, .slice ma mn mc, .slice ta tn tc, .int .i64 r0, .int .i64 r1] 34) ∧ w'.heap[b + 1]? = some (.cells (fN h).toArray 56)) ⟨sk9, hb ▸ blk_old (blk_new2 _ _), by rw [← hb, ← size_alloc w]; exact blk_new2 _ _⟩ ?_
  try simp only [hb]
  rintro w1 ⟨x1, k0, k1⟩
  have c0 := cell_blk (i := 0) k0 rfl
  have c1 := cell_blk (i := 1) k0 rfl
  have c2 := cell_blk (i := 2) k0 rfl
  have c3 := cell_blk (i := 3) k0 rfl
  have c4 := cell_blk (i := 4) k0 rfl
  have c5 := cell_blk (i := 5) k0 rfl
  have c6 := cell_blk (i := 6) k0 rfl
  have qv := cell_ex x1 kv
  have qr := cell_ex x1 kr
  have hNa := hN.ex x1
  have l1 := blk_lt k1
  have l2 := cell_lt qv
  have l3 := cell_lt qr
  cases lv
  · go_wp2_with (first | (refine wpList_load_row rfl 56 _ rfl (b + 1) rfl _ _ _ _ k1 Tryz.underlying56 rfl (by kernel_rfl) ?_) | (refine wpList_build_is rfl 56 _ rfl (fN nh0) ?hf ?_; case hf => (simp only [List.map_toArray, List.map_cons, List.map_nil]; kernel_rfl)) | (go_at_call 48; refine (lsameNd_at (h2 := nh0) (hNa.ex sk9) (nd0_at _) s1 (by decide) hv.it).mono ?_; rintro e w' ⟨rfl, nx, rfl⟩))
    go_ret
    exact ⟨rfl, ex_trans x1 sk9⟩
  cases bm
  · obtain rfl : false = v := hv.it
    go_upto_region 3 with fail
    refine region_plus (by kernel_rfl) (by kernel_rfl) ?_
    (repeat (first | go_big_quiet_skip | (refine wpQuiet_load_guarded 56 _ rfl (b + 1) 0 rfl (fN h) _ (fun w' hw j v hj => cell_ex (by first | exact hw | exact ex_trans sk9 hw) (by rw [Nat.zero_add]; exact cell_of k1 hj)) Tryz.underlying56 rfl (by kernel_rfl) (by kernel_rfl) ?_; simp only [Act.put, List.setIfInBounds_toArray, List.set_cons_succ, List.set_cons_zero]) | go_big_quiet_step (first | (go_at_call 17; exact q9_of (lcheckNd_is (hNa.ex sk9) s1 hbm)) | (go_at_call 120; exact q9_of (kidsFit_calls h _ _ _ hbf _)))))
    refine wpQuiet_nil ?_
    rintro _ ⟨x2, rfl⟩
    go_wp2
    go_ret
    exact ⟨rfl, ex_trans x1 sk9⟩
  · obtain rfl : bf = v := hv.it
    go_upto_region 3 with fail
    refine region_plus (by kernel_rfl) (by kernel_rfl) ?_
    (repeat (first | go_big_quiet_skip | (refine wpQuiet_load_guarded 56 _ rfl (b + 1) 0 rfl (fN h) _ (fun w' hw j v hj => cell_ex (by first | exact hw | exact ex_trans sk9 hw) (by rw [Nat.zero_add]; exact cell_of k1 hj)) Tryz.underlying56 rfl (by kernel_rfl) (by kernel_rfl) ?_; simp only [Act.put, List.setIfInBounds_toArray, List.set_cons_succ, List.set_cons_zero]) | go_big_quiet_step (first | (go_at_call 17; exact q9_of (lcheckNd_is (hNa.ex sk9) s1 hbm)) | (go_at_call 120; exact q9_of (kidsFit_calls h _ _ _ hbf _)))))
    refine wpQuiet_nil ?_
    rintro _ ⟨x2, rfl⟩
    go_wp2
    go_ret
    exact ⟨rfl, ex_trans x1 sk9⟩

set_option maxHeartbeats 2000000 in
theorem lroot_calls (ga ka na ma ta : Option Addr) (gn gc kn kc nn nc mn mc tn tc : Nat) (r0 r1 : Int) (a0 a1 : Int) (l : List Sl) (w : World) (hl : Lay fS w ga gn l) (hn : gn ≤ 1000) (hok : arOk l = true) {v : Bool} (hv : (decide ((a0, a1) = ((0, 0) : Int × Int)) || heldIn l a0 a1) = v) :
    Calls Tryz.prog 31 #[.agg #[.slice ga gn gc, .slice ka kn kc, .slice na nn nc, .slice ma mn mc, .slice ta tn tc, .int .i64 r0, .int .i64 r1], .agg #[.int .i64 a0, .int .i64 a1]] w fun e w' => e = .returned (.bool v) ∧ ∃ y, w' = plus w y := by
  obtain ⟨br, hbr⟩ : ∃ b, eqh a0 a1 0 0 = b := ⟨_, rfl⟩
  have qH := eqH_is hbr
  have hroot : decide ((a0, a1) = ((0, 0) : Int × Int)) = br := by
    rw [← hbr]
    by_cases e0 : a0 = 0 <;> by_cases e1 : a1 = 0 <;> simp [eqh, e0, e1]
  rw [hroot] at hv
  clear hroot hbr
  obtain ⟨bh, hbh⟩ : ∃ b, heldIn l a0 a1 = b := ⟨_, rfl⟩
  have hho : holds l a0 a1 = bh := by rw [holds, hok, hbh]; rfl
  rw [hbh] at hv
  replace hv := Hush9.mk hv
  replace hho := Hush9.mk hho
  cases br
  · obtain rfl : bh = v := hv.it
    go_enter Tryz.func31, Tryz.ntmps31
    go_wp2_with (go_at_call 79; refine (plus_post (hho.it ▸ lholds_calls _ _ _ l _ _ _ (hl.ex sk9) (by omega))).mono ?_; rintro e w' ⟨rfl, nx, rfl⟩)
    go_ret
    exact ⟨rfl, sk9⟩
  · obtain rfl : true = v := hv.it
    go_enter Tryz.func31, Tryz.ntmps31
    go_wp2_with fail
    go_ret
    exact ⟨rfl, sk9⟩

end

section


open Go.RowKit Go.ChangeShapes Go.WideShapes Go.ChangeAt

set_option linter.unusedSimpArgs false

set_option linter.unusedVariables false

attribute [local go_sem] plus_size plus_drew dn_set dn_alloc dn_plus plus_dn cell_plus frozen_plus set_plus cell_alloc frozen_alloc set_alloc

def kidsL (g : Gr) (h : Int × Int) : List (Int × Int) := if askErr g h h = 0 then rowAt g h else []

def parentsL (g : Gr) (h : Int × Int) : List (Int × Int) := if askErr g h h = 0 then parentsTo g h g.ks.length else []

def reachR (g : Gr) (a b : Int × Int) : Bool := if askErr g a b = 0 then reachB g a b else false

theorem ask_ok {g : Gr} {a b : Int × Int} (h : askErr g a b = 0) : grOk g = true ∧ heldIn g.sl a.1 a.2 = true ∧ heldIn g.sl b.1 b.2 = true := by
  unfold askErr at h
  split at h
  · rename_i hg
    split at h
    · rename_i hh; exact ⟨hg, hh.1, hh.2⟩
    · cases h
  · cases h

theorem ask_err (g : Gr) (a b : Int × Int) : askErr g a b = 0 ∨ askErr g a b = 8 ∨ askErr g a b = 50 := by
  unfold askErr
  split
  · split
    · exact .inl rfl
    · exact .inr (.inr rfl)
  · exact .inr (.inl rfl)

end

section


open Go.RowKit Go.ChangeShapes Go.WideShapes Go.ChangeAt

set_option linter.unusedSimpArgs false

set_option linter.unusedVariables false

attribute [local go_sem] plus_size plus_drew dn_set dn_alloc dn_plus plus_dn cell_plus frozen_plus set_plus cell_alloc frozen_alloc set_alloc

def parentsIn (gr : Gr) (h : Int × Int) (i k : Nat) : List (Int × Int) := parentsTo gr h i ++ (((nth [] gr.ks i).take k).filter fun x => decide (x = h)).map fun _ => ((i : Int), (nth dSl gr.sl i).gen)

end

section


open Go.RowKit Go.ChangeShapes Go.WideShapes Go.ChangeAt

set_option linter.unusedSimpArgs false

set_option linter.unusedVariables false

attribute [local go_sem] plus_size plus_drew dn_set dn_alloc dn_plus plus_dn cell_plus frozen_plus set_plus cell_alloc frozen_alloc set_alloc

def Sh (T : World) (e : TypeId) (c : Nat) (w : World) (ao : Option Addr) (n : Nat) : Prop := n = 0 ∨ ∃ g cur, ao = some ⟨g, 0, none⟩ ∧ T.heap.size ≤ g ∧ w.heap[g]? = some (.cells cur e) ∧ n * c ≤ cur.size

structure Sp (T w w' : World) : Prop where
  os : w'.os = w.os
  tape : w'.tape = w.tape
  output : w'.output = w.output
  size : w.heap.size ≤ w'.heap.size
  blk : ∀ k, k < w.heap.size → w'.heap[k]? = w.heap[k]? ∨ (T.heap.size ≤ k ∧ ∃ c c' e, w.heap[k]? = some (.cells c e) ∧ w'.heap[k]? = some (.cells c' e) ∧ c'.size = c.size ∧ (e = 86 ∨ e = 32))

section

variable {T w w1 w2 : World}

end

structure ShG (T w : World) (ao : Option Addr) (n : Nat) (ko : Option Addr) (kn kcap : Nat) (hs : List RH) : Prop where
  s : Sh T 86 2 w ao n
  kh : Own 88 1 fR T w ko kn kcap hs
  r : ∀ k, k < kn → Sh T 32 2 w (nth dRH hs k).ao (nth dRH hs k).n
  n1 : n ≤ 10000
  n2 : kn ≤ 10000
  n3 : ∀ k, k < kn → (nth dRH hs k).n ≤ 10000

end

section


open Go.RowKit Go.ChangeShapes Go.WideShapes Go.ChangeAt

set_option linter.unusedSimpArgs false

set_option linter.unusedVariables false

attribute [local go_sem] plus_size plus_drew dn_set dn_alloc dn_plus plus_dn cell_plus frozen_plus set_plus cell_alloc frozen_alloc set_alloc

theorem Lay.take {α : Type} {f : α → List Value} {w : World} {ao : Option Addr} {n k c : Nat} {l : List α} (h : Lay f w ao n l) (hc : ∀ x, (f x).length = c) (hk : k ≤ n) : Lay f w ao k (l.take k) := by
  refine ⟨by rw [List.length_take, h.len]; omega, ?_⟩
  by_cases h0 : k = 0
  · exact .inl h0
  · obtain ⟨g, off, e, hg, hcell⟩ := h.some (by omega)
    refine .inr ⟨g, off, e, hg, fun j u hu => hcell j u ?_⟩
    have hl : l.flatMap f = (l.take k).flatMap f ++ (l.drop k).flatMap f := by rw [← List.flatMap_append, List.take_append_drop]
    rw [hl, List.getElem?_append_left (List.getElem?_eq_some_iff.1 hu).1]
    exact hu

theorem Lay.drop {α : Type} {f : α → List Value} {w : World} {g off n k c : Nat} {l : List α} (h : Lay f w (Option.some ⟨g, off, none⟩) n l) (hc : ∀ x, (f x).length = c) (hk : k ≤ n) : Lay f w (Option.some ⟨g, off + k * c, none⟩) (n - k) (l.drop k) := by
  refine ⟨by rw [List.length_drop, h.len], ?_⟩
  by_cases h0 : n - k = 0
  · exact .inl h0
  · obtain ⟨_, _, e, hg, hcell⟩ := h.some (by omega)
    cases e
    refine .inr ⟨g, off + k * c, rfl, hg, fun j u hu => ?_⟩
    rw [Nat.add_assoc]
    refine hcell (k * c + j) u ?_
    have hl : l.flatMap f = (l.take k).flatMap f ++ (l.drop k).flatMap f := by rw [← List.flatMap_append, List.take_append_drop]
    have hlen : ((l.take k).flatMap f).length = k * c := by rw [flat_length hc, List.length_take, h.len, Nat.min_eq_left hk]
    rw [hl, List.getElem?_append_right (by omega), hlen, Nat.add_sub_cancel_left]
    exact hu

theorem GrOwn.setRow {T w : World} {ao : Option Addr} {n cap kb kn kcap : Nat} {hs : List RH} {g : Gr} {k : Nat} {r : RH} {l : List (Int × Int)} (h : GrOwn T w ao n cap (some ⟨kb, 0, none⟩) kn kcap hs g) (hk : k < kn) (o : Own 32 2 f2 T w r.ao r.n r.cap l) :
    GrOwn T (w.setCell ⟨kb, k, none⟩ (.slice r.ao r.n r.cap)) ao n cap (some ⟨kb, 0, none⟩) kn kcap (hs.set k r) ⟨g.sl, g.ks.set k l⟩ := by
  obtain ⟨_, cur, e0, _, hb, _⟩ := h.kh.blk (by omega)
  cases e0
  have hs1 := h.kh.set_self (u := .slice r.ao r.n r.cap) k 0 r dRH hk fR_c (by decide) rfl
  rw [Nat.mul_one, Nat.add_zero] at hs1
  have hl := h.kh.1
  have hkl := h.kl
  refine ⟨h.sl.set_other hb (by decide), hs1, by show (hs.set k r).length = (g.ks.set k l).length; rw [List.length_set, List.length_set]; exact h.len, fun j hj => ?_⟩
  rw [List.length_set] at hj
  show Own 32 2 f2 T _ _ _ _ (nth [] (g.ks.set k l) j)
  rw [nth_set' (by omega), nth_set' (by omega)]
  by_cases e : j = k
  · rw [if_pos e, if_pos e]
    exact o.set_other hb (by decide)
  · rw [if_neg e, if_neg e]
    exact (h.row j hj).set_other hb (by decide)

def zeroG : Gr := ⟨[], []⟩

def RetG (w : World) (g : Gr) (er : Int) (e : Ending) (w' : World) : Prop := ∃ ao' cap' ko' kcap' hs', e = .returned (.tuple #[.agg #[.slice ao' g.sl.length cap', .slice ko' g.ks.length kcap'], .int .i64 er]) ∧ (∃ y, w' = plus w y) ∧ GrOwn w w' ao' g.sl.length cap' ko' g.ks.length kcap' hs' g

theorem own_zero {T w : World} : GrOwn T w none 0 0 none 0 0 [] zeroG := ⟨own_nil, own_nil, rfl, fun k hk => by simp at hk⟩

def unlinkRes (g : Gr) (p : Int × Int) (k : Int) : Gr := if unlinkErr g p k = 0 then unlinkG g p k else zeroG

end

section


open Go.RowKit Go.ChangeShapes Go.WideShapes Go.ChangeAt

set_option linter.unusedSimpArgs false

set_option linter.unusedVariables false

attribute [local go_sem] plus_size plus_drew dn_set dn_alloc dn_plus plus_dn cell_plus frozen_plus set_plus cell_alloc frozen_alloc set_alloc

def makeRes (g : Gr) : Gr := if makeGErr g = 0 then makeG g else zeroG

def makeS (g : Gr) : Int := if makeGErr g = 0 then mkSlot g.sl else 0

def makeH (g : Gr) : Int := if makeGErr g = 0 then mkGen g.sl else 0

def RetGM (w : World) (g : Gr) (s h er : Int) (e : Ending) (w' : World) : Prop := ∃ ao' cap' ko' kcap' hs', e = .returned (.tuple #[.agg #[.slice ao' g.sl.length cap', .slice ko' g.ks.length kcap'], .agg #[.int .i64 s, .int .i64 h], .int .i64 er]) ∧ (∃ y, w' = plus w y) ∧ GrOwn w w' ao' g.sl.length cap' ko' g.ks.length kcap' hs' g

theorem blk_eq {w w' : World} {g : Nat} {o : Obj} (e : w' = w) (h : w.heap[g]? = some o) : w'.heap[g]? = some o := e ▸ h

theorem two_set12 {b1 b2 : Nat} {o1 o2 : Obj} {w : World} {i j : Nat} {u v : Value} (hne : b1 ≠ b2) (h : ((w.setCell ⟨b1, i, none⟩ u).setCell ⟨b1, j, none⟩ v).heap[b1]? = some o1) : Two b1 o1 b2 o2 w ((w.setCell ⟨b1, i, none⟩ u).setCell ⟨b1, j, none⟩ v) :=
  ⟨rfl, rfl, rfl, by rw [size_set, size_set]; exact Nat.le_refl _, fun k _ n1 _ => (blk_set_ne (fun e => n1 e.symm)).trans (blk_set_ne (fun e => n1 e.symm)), .inr h, .inl ((blk_set_ne hne).trans (blk_set_ne hne))⟩

theorem Own.two_same {α : Type} {f : α → List Value} {b1 b2 : Nat} {o1 o2 : Obj} {w w1 T : World} {ao : Option Addr} {n cap c : Nat} {l : List α} {e e1 : TypeId} {c1 : Array Value} (h : Own e c f T w ao n cap l) (ht : Two b1 o1 b2 o2 w w1) (h1 : w.heap[b1]? = some (.cells c1 e1)) (n1 : e1 ≠ e) (hb : b2 < T.heap.size) : Own e c f T w1 ao n cap l := by
  refine ⟨h.1, h.2.1, h.2.2.imp id ?_⟩
  rintro ⟨q, cp, cu, a1, a2, a3, a4⟩
  refine ⟨q, cp, cu, a1, a2, ?_, a4⟩
  rw [ht.rest q (blk_lt a3) ?_ (by omega)]
  · exact a3
  · intro e0
    rw [e0, h1] at a3
    cases a3
    exact n1 rfl

def g10S (i : Nat) : List Nat := match i with | 0 => [42] | 1 => [43] | 4 => [4] | _ => []

def g10Φ (xv hv : Value) (b1 : Nat) (o1 : Obj) (b2 : Nat) (o2 : Obj) (i : Nat) (t : Nat → Value) (w' : World) : Prop := match i with
  | 0 => t 42 = xv
  | 1 => t 43 = hv
  | 2 => w'.heap[b1]? = some o1
  | 3 => w'.heap[b2]? = some o2
  | 4 => t 4 = .int .i64 0
  | _ => True

end

end Go.Proofs.YtcekcihijdipoaaGreat
