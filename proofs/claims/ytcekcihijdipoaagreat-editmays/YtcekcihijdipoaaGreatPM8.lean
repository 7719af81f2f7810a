/- A pack of texts: Ed3k2, Ed3k3, Ed3k4, Ed3k5, Ed4, Mesh2. -/
import Derived.Deep.DeepCutAuto
import Derived.Test.YtcekcihijdipoaaGreatPM7
import Derived.Test.YtcekcihijdipoaaGreatPM5
namespace Go.Proofs.YtcekcihijdipoaaGreat

section


open Go.RowKit Go.ChangeShapes Go.WideShapes Go.ChangeAt

set_option linter.unusedSimpArgs false

set_option linter.unusedVariables false

attribute [local go_sem] plus_size plus_drew dn_set dn_alloc dn_plus plus_dn cell_plus frozen_plus set_plus cell_alloc frozen_alloc set_alloc

set_option maxRecDepth 100000 in
set_option maxHeartbeats 8000000 in
theorem mayNd_k2 (ga ka na ma ta : Option Addr) (gn gc kn kc nn nc mn mc tn tc : Nat) (r0 r1 : Int) (am0 am1 am2 am3 am4 am5 am6 am7 am8 am9 am10 am11 ao ac0 ac1 ac2 ae as0 as1 as2 as3 as4 as5 as6 as7 as8 as9 as10 as11 as13 : Int) (as12 : Bool) (aa : Option Addr) (an ax : Nat) (af : List Int) (w : World) (hB : NfB ⟨2, ⟨⟨⟨am0, am1, am2⟩, ⟨am3, am4, am5⟩, ⟨am6, am7, am8⟩⟩, ⟨am9, am10, am11⟩⟩, ao, ⟨ac0, ac1, ac2⟩, ae, ⟨as0, as1, as2, as3, as4, ⟨as5, as6, as7, as8, as9, as10, as11, as12, as13⟩⟩⟩) (hl : Lay fI w aa an af) (hn : an ≤ 9223372036854775807) (hsty : styOk ⟨as0, as1, as2, as3, as4, ⟨as5, as6, as7, as8, as9, as10, as11, as12, as13⟩⟩ = true) (htx : 0 < as1 → as9 < (tn : Int)) :
    Calls Tryz.prog 51 #[.agg #[.slice ga gn gc, .slice ka kn kc, .slice na nn nc, .slice ma mn mc, .slice ta tn tc, .int .i64 r0, .int .i64 r1], .agg (List.toArray (.int .u8 2 :: .int .i64 am0 :: .int .i64 am1 :: .int .i64 am2 :: .int .i64 am3 :: .int .i64 am4 :: .int .i64 am5 :: .int .i64 am6 :: .int .i64 am7 :: .int .i64 am8 :: .int .i64 am9 :: .int .i64 am10 :: .int .i64 am11 :: .int .u16 ao :: .int .i64 ac0 :: .int .i64 ac1 :: .int .i64 ac2 :: .slice aa an ax :: .int .i64 ae :: .int .u8 as0 :: .int .u8 as1 :: .int .u8 as2 :: .int .u8 as3 :: .int .u8 as4 :: .int .u8 as5 :: .int .u8 as6 :: .int .u8 as7 :: .int .u8 as8 :: .int .i64 as9 :: .int .u8 as10 :: .int .i64 as11 :: .bool as12 :: .int .i64 as13 :: []))] w fun e w' => e = .returned (.bool (mayNd mn tn ⟨⟨2, ⟨⟨⟨am0, am1, am2⟩, ⟨am3, am4, am5⟩, ⟨am6, am7, am8⟩⟩, ⟨am9, am10, am11⟩⟩, ao, ⟨ac0, ac1, ac2⟩, ae, ⟨as0, as1, as2, as3, as4, ⟨as5, as6, as7, as8, as9, as10, as11, as12, as13⟩⟩⟩, af⟩)) ∧ ∃ y, w' = plus w y := by
  have hlen := hl.len
  have hx : (0 < as1 ∧ as9 < (tn : Int)) ∨ ¬ 0 < as1 := by omega
  have hy : as1 ≤ 0 ∨ as9 < (tn : Int) := by omega
  replace hy := Hush9.mk hy
  clear htx
  go_enter Tryz.func51, Tryz.ntmps51
  go_upto_region 1 with fail
  go_cut [35] (fun v wx => v = .bool false ∧ ∃ y, wx = plus ((w.alloc (.cells #[.slice ga gn gc, .slice ka kn kc, .slice na nn nc, .slice ma mn mc, .slice ta tn tc, .int .i64 r0, .int .i64 r1] 34)).alloc (.cells (List.toArray (.int .u8 2 :: .int .i64 am0 :: .int .i64 am1 :: .int .i64 am2 :: .int .i64 am3 :: .int .i64 am4 :: .int .i64 am5 :: .int .i64 am6 :: .int .i64 am7 :: .int .i64 am8 :: .int .i64 am9 :: .int .i64 am10 :: .int .i64 am11 :: .int .u16 ao :: .int .i64 ac0 :: .int .i64 ac1 :: .int .i64 ac2 :: .slice aa an ax :: .int .i64 ae :: .int .u8 as0 :: .int .u8 as1 :: .int .u8 as2 :: .int .u8 as3 :: .int .u8 as4 :: .int .u8 as5 :: .int .u8 as6 :: .int .u8 as7 :: .int .u8 as8 :: .int .i64 as9 :: .int .u8 as10 :: .int .i64 as11 :: .bool as12 :: .int .i64 as13 :: [])) 56)) y)
  case first =>
    rcases hx with ⟨x1, x2⟩ | x1
    all_goals
      go_wp2_with (first | (go_at_call 97; refine (plus_post (sty_is hsty hB.sty)).mono ?_; rintro e w' ⟨rfl, nx, rfl⟩) | (go_at_call 98; refine (plus_post (matMay_is hmat)).mono ?_; rintro e w' ⟨rfl, nx, rfl⟩) | (go_at_call 99; refine (plus_post (all_is hall)).mono ?_; rintro e w' ⟨rfl, nx, rfl⟩) | (go_at_call 100; refine (dist_is hdis (hl.ex (by with_reducible repeat (first | exact ex_refl _ | exact ex_more9 | apply ex_alloc | apply ex_plus | apply ex_drew | apply ex_drewN))) hn).mono ?_; rintro e w' ⟨rfl, nx, rfl⟩))
      go_meet
      exact ⟨by first | rfl | (congr 1; exact decide_eq_false (by omega)), (by with_reducible repeat (first | exact ex_refl _ | exact ex_more9 | apply ex_alloc | apply ex_plus | apply ex_drew | apply ex_drewN))⟩
  case rest =>
  obtain ⟨rfl, y1, rfl⟩ := hcut
  clear hx
  cases hmat : mayM ⟨⟨⟨am0, am1, am2⟩, ⟨am3, am4, am5⟩, ⟨am6, am7, am8⟩⟩, ⟨am9, am10, am11⟩⟩
  · go_wp2_with (first | (go_at_call 97; refine (plus_post (sty_is hsty hB.sty)).mono ?_; rintro e w' ⟨rfl, nx, rfl⟩) | (go_at_call 98; refine (plus_post (matMay_is hmat)).mono ?_; rintro e w' ⟨rfl, nx, rfl⟩) | (go_at_call 99; refine (plus_post (all_is hall)).mono ?_; rintro e w' ⟨rfl, nx, rfl⟩) | (go_at_call 100; refine (dist_is hdis (hl.ex (by with_reducible repeat (first | exact ex_refl _ | exact ex_more9 | apply ex_alloc | apply ex_plus | apply ex_drew | apply ex_drewN))) hn).mono ?_; rintro e w' ⟨rfl, nx, rfl⟩))
    exact bodyPost_ret (v := .bool false) (by simp [results, Tryz.results51, go_sem]) rfl ⟨by rw [show mayNd mn tn ⟨⟨2, ⟨⟨⟨am0, am1, am2⟩, ⟨am3, am4, am5⟩, ⟨am6, am7, am8⟩⟩, ⟨am9, am10, am11⟩⟩, ao, ⟨ac0, ac1, ac2⟩, ae, ⟨as0, as1, as2, as3, as4, ⟨as5, as6, as7, as8, as9, as10, as11, as12, as13⟩⟩⟩, af⟩ = false by simp [mayNd, hmat]], (by with_reducible repeat (first | exact ex_refl _ | exact ex_more9 | apply ex_alloc | apply ex_plus | apply ex_drew | apply ex_drewN))⟩
  by_cases ho : ao = 0
  rotate_left
  · have dk : (ao == 0) = false := by rw [beq_eq_false_iff_ne]; exact ho
    go_wp2_with (first | (go_at_call 97; refine (plus_post (sty_is hsty hB.sty)).mono ?_; rintro e w' ⟨rfl, nx, rfl⟩) | (go_at_call 98; refine (plus_post (matMay_is hmat)).mono ?_; rintro e w' ⟨rfl, nx, rfl⟩) | (go_at_call 99; refine (plus_post (all_is hall)).mono ?_; rintro e w' ⟨rfl, nx, rfl⟩) | (go_at_call 100; refine (dist_is hdis (hl.ex (by with_reducible repeat (first | exact ex_refl _ | exact ex_more9 | apply ex_alloc | apply ex_plus | apply ex_drew | apply ex_drewN))) hn).mono ?_; rintro e w' ⟨rfl, nx, rfl⟩))
    exact bodyPost_ret (v := .bool false) (by simp [results, Tryz.results51, go_sem]) rfl ⟨by rw [show mayNd mn tn ⟨⟨2, ⟨⟨⟨am0, am1, am2⟩, ⟨am3, am4, am5⟩, ⟨am6, am7, am8⟩⟩, ⟨am9, am10, am11⟩⟩, ao, ⟨ac0, ac1, ac2⟩, ae, ⟨as0, as1, as2, as3, as4, ⟨as5, as6, as7, as8, as9, as10, as11, as12, as13⟩⟩⟩, af⟩ = false by simp [mayNd, ho]], (by with_reducible repeat (first | exact ex_refl _ | exact ex_more9 | apply ex_alloc | apply ex_plus | apply ex_drew | apply ex_drewN))⟩
  subst ho
  cases hc : eqv ⟨ac0, ac1, ac2⟩ ⟨0, 0, 0⟩
  · have qV := eqV_is hc
    go_wp2_with (first | (go_at_call 97; refine (plus_post (sty_is hsty hB.sty)).mono ?_; rintro e w' ⟨rfl, nx, rfl⟩) | (go_at_call 98; refine (plus_post (matMay_is hmat)).mono ?_; rintro e w' ⟨rfl, nx, rfl⟩) | (go_at_call 99; refine (plus_post (all_is hall)).mono ?_; rintro e w' ⟨rfl, nx, rfl⟩) | (go_at_call 100; refine (dist_is hdis (hl.ex (by with_reducible repeat (first | exact ex_refl _ | exact ex_more9 | apply ex_alloc | apply ex_plus | apply ex_drew | apply ex_drewN))) hn).mono ?_; rintro e w' ⟨rfl, nx, rfl⟩))
    exact bodyPost_ret (v := .bool false) (by simp [results, Tryz.results51, go_sem]) rfl ⟨by rw [show mayNd mn tn ⟨⟨2, ⟨⟨⟨am0, am1, am2⟩, ⟨am3, am4, am5⟩, ⟨am6, am7, am8⟩⟩, ⟨am9, am10, am11⟩⟩, 0, ⟨ac0, ac1, ac2⟩, ae, ⟨as0, as1, as2, as3, as4, ⟨as5, as6, as7, as8, as9, as10, as11, as12, as13⟩⟩⟩, af⟩ = false by simp [mayNd, zeroV, hc]], (by with_reducible repeat (first | exact ex_refl _ | exact ex_more9 | apply ex_alloc | apply ex_plus | apply ex_drew | apply ex_drewN))⟩
  have qV := eqV_is hc
  by_cases hf0 : an = 0
  rotate_left
  · have i0 : (0 : Int) < (an : Int) := by omega
    go_wp2_with (first | (go_at_call 97; refine (plus_post (sty_is hsty hB.sty)).mono ?_; rintro e w' ⟨rfl, nx, rfl⟩) | (go_at_call 98; refine (plus_post (matMay_is hmat)).mono ?_; rintro e w' ⟨rfl, nx, rfl⟩) | (go_at_call 99; refine (plus_post (all_is hall)).mono ?_; rintro e w' ⟨rfl, nx, rfl⟩) | (go_at_call 100; refine (dist_is hdis (hl.ex (by with_reducible repeat (first | exact ex_refl _ | exact ex_more9 | apply ex_alloc | apply ex_plus | apply ex_drew | apply ex_drewN))) hn).mono ?_; rintro e w' ⟨rfl, nx, rfl⟩))
    exact bodyPost_ret (v := .bool false) (by simp [results, Tryz.results51, go_sem]) rfl ⟨by rw [show mayNd mn tn ⟨⟨2, ⟨⟨⟨am0, am1, am2⟩, ⟨am3, am4, am5⟩, ⟨am6, am7, am8⟩⟩, ⟨am9, am10, am11⟩⟩, 0, ⟨ac0, ac1, ac2⟩, ae, ⟨as0, as1, as2, as3, as4, ⟨as5, as6, as7, as8, as9, as10, as11, as12, as13⟩⟩⟩, af⟩ = false by simp [mayNd, hlen, hf0]], (by with_reducible repeat (first | exact ex_refl _ | exact ex_more9 | apply ex_alloc | apply ex_plus | apply ex_drew | apply ex_drewN))⟩
  subst hf0
  obtain rfl := hl.zero
  by_cases he : ae = 0
  rotate_left
  · have dk : (ae == 0) = false := by rw [beq_eq_false_iff_ne]; exact he
    go_wp2_with (first | (go_at_call 97; refine (plus_post (sty_is hsty hB.sty)).mono ?_; rintro e w' ⟨rfl, nx, rfl⟩) | (go_at_call 98; refine (plus_post (matMay_is hmat)).mono ?_; rintro e w' ⟨rfl, nx, rfl⟩) | (go_at_call 99; refine (plus_post (all_is hall)).mono ?_; rintro e w' ⟨rfl, nx, rfl⟩) | (go_at_call 100; refine (dist_is hdis (hl.ex (by with_reducible repeat (first | exact ex_refl _ | exact ex_more9 | apply ex_alloc | apply ex_plus | apply ex_drew | apply ex_drewN))) hn).mono ?_; rintro e w' ⟨rfl, nx, rfl⟩))
    exact bodyPost_ret (v := .bool false) (by simp [results, Tryz.results51, go_sem]) rfl ⟨by rw [show mayNd mn tn ⟨⟨2, ⟨⟨⟨am0, am1, am2⟩, ⟨am3, am4, am5⟩, ⟨am6, am7, am8⟩⟩, ⟨am9, am10, am11⟩⟩, 0, ⟨ac0, ac1, ac2⟩, ae, ⟨as0, as1, as2, as3, as4, ⟨as5, as6, as7, as8, as9, as10, as11, as12, as13⟩⟩⟩, []⟩ = false by simp [mayNd, he]], (by with_reducible repeat (first | exact ex_refl _ | exact ex_more9 | apply ex_alloc | apply ex_plus | apply ex_drew | apply ex_drewN))⟩
  subst he
  obtain ⟨rfl, rfl, rfl⟩ : ac0 = 0 ∧ ac1 = 0 ∧ ac2 = 0 := by have := eqv_eq hc; simpa using this
  have hall : all3 ⟨0, 0, 0⟩ 4096 = true := rfl
  have hdis : distOk [] = true := rfl
  go_wp2_with (first | (go_at_call 97; refine (plus_post (sty_is hsty hB.sty)).mono ?_; rintro e w' ⟨rfl, nx, rfl⟩) | (go_at_call 98; refine (plus_post (matMay_is hmat)).mono ?_; rintro e w' ⟨rfl, nx, rfl⟩) | (go_at_call 99; refine (plus_post (all_is hall)).mono ?_; rintro e w' ⟨rfl, nx, rfl⟩) | (go_at_call 100; refine (dist_is hdis (hl.ex (by with_reducible repeat (first | exact ex_refl _ | exact ex_more9 | apply ex_alloc | apply ex_plus | apply ex_drew | apply ex_drewN))) hn).mono ?_; rintro e w' ⟨rfl, nx, rfl⟩))
  exact bodyPost_ret (v := .bool true) (by simp [results, Tryz.results51, go_sem]) rfl ⟨by rw [show mayNd mn tn ⟨⟨2, ⟨⟨⟨am0, am1, am2⟩, ⟨am3, am4, am5⟩, ⟨am6, am7, am8⟩⟩, ⟨am9, am10, am11⟩⟩, 0, ⟨0, 0, 0⟩, 0, ⟨as0, as1, as2, as3, as4, ⟨as5, as6, as7, as8, as9, as10, as11, as12, as13⟩⟩⟩, []⟩ = true by simp [mayNd, hsty, hmat, zeroV, hc, hall, hdis, hy.it]], (by with_reducible repeat (first | exact ex_refl _ | exact ex_more9 | apply ex_alloc | apply ex_plus | apply ex_drew | apply ex_drewN))⟩

end

section


open Go.RowKit Go.ChangeShapes Go.WideShapes Go.ChangeAt

set_option linter.unusedSimpArgs false

set_option linter.unusedVariables false

attribute [local go_sem] plus_size plus_drew dn_set dn_alloc dn_plus plus_dn cell_plus frozen_plus set_plus cell_alloc frozen_alloc set_alloc

set_option maxRecDepth 100000 in
set_option maxHeartbeats 8000000 in
theorem mayNd_k3 (ga ka na ma ta : Option Addr) (gn gc kn kc nn nc mn mc tn tc : Nat) (r0 r1 : Int) (am0 am1 am2 am3 am4 am5 am6 am7 am8 am9 am10 am11 ao ac0 ac1 ac2 ae as0 as1 as2 as3 as4 as5 as6 as7 as8 as9 as10 as11 as13 : Int) (as12 : Bool) (aa : Option Addr) (an ax : Nat) (af : List Int) (w : World) (hB : NfB ⟨3, ⟨⟨⟨am0, am1, am2⟩, ⟨am3, am4, am5⟩, ⟨am6, am7, am8⟩⟩, ⟨am9, am10, am11⟩⟩, ao, ⟨ac0, ac1, ac2⟩, ae, ⟨as0, as1, as2, as3, as4, ⟨as5, as6, as7, as8, as9, as10, as11, as12, as13⟩⟩⟩) (hl : Lay fI w aa an af) (hn : an ≤ 9223372036854775807) (hsty : styOk ⟨as0, as1, as2, as3, as4, ⟨as5, as6, as7, as8, as9, as10, as11, as12, as13⟩⟩ = true) (htx : 0 < as1 → as9 < (tn : Int)) :
    Calls Tryz.prog 51 #[.agg #[.slice ga gn gc, .slice ka kn kc, .slice na nn nc, .slice ma mn mc, .slice ta tn tc, .int .i64 r0, .int .i64 r1], .agg (List.toArray (.int .u8 3 :: .int .i64 am0 :: .int .i64 am1 :: .int .i64 am2 :: .int .i64 am3 :: .int .i64 am4 :: .int .i64 am5 :: .int .i64 am6 :: .int .i64 am7 :: .int .i64 am8 :: .int .i64 am9 :: .int .i64 am10 :: .int .i64 am11 :: .int .u16 ao :: .int .i64 ac0 :: .int .i64 ac1 :: .int .i64 ac2 :: .slice aa an ax :: .int .i64 ae :: .int .u8 as0 :: .int .u8 as1 :: .int .u8 as2 :: .int .u8 as3 :: .int .u8 as4 :: .int .u8 as5 :: .int .u8 as6 :: .int .u8 as7 :: .int .u8 as8 :: .int .i64 as9 :: .int .u8 as10 :: .int .i64 as11 :: .bool as12 :: .int .i64 as13 :: []))] w fun e w' => e = .returned (.bool (mayNd mn tn ⟨⟨3, ⟨⟨⟨am0, am1, am2⟩, ⟨am3, am4, am5⟩, ⟨am6, am7, am8⟩⟩, ⟨am9, am10, am11⟩⟩, ao, ⟨ac0, ac1, ac2⟩, ae, ⟨as0, as1, as2, as3, as4, ⟨as5, as6, as7, as8, as9, as10, as11, as12, as13⟩⟩⟩, af⟩)) ∧ ∃ y, w' = plus w y := by
  have hlen := hl.len
  have hx : (0 < as1 ∧ as9 < (tn : Int)) ∨ ¬ 0 < as1 := by omega
  have hy : as1 ≤ 0 ∨ as9 < (tn : Int) := by omega
  replace hy := Hush9.mk hy
  clear htx
  go_enter Tryz.func51, Tryz.ntmps51
  go_upto_region 1 with fail
  go_cut [35] (fun v wx => v = .bool false ∧ ∃ y, wx = plus ((w.alloc (.cells #[.slice ga gn gc, .slice ka kn kc, .slice na nn nc, .slice ma mn mc, .slice ta tn tc, .int .i64 r0, .int .i64 r1] 34)).alloc (.cells (List.toArray (.int .u8 3 :: .int .i64 am0 :: .int .i64 am1 :: .int .i64 am2 :: .int .i64 am3 :: .int .i64 am4 :: .int .i64 am5 :: .int .i64 am6 :: .int .i64 am7 :: .int .i64 am8 :: .int .i64 am9 :: .int .i64 am10 :: .int .i64 am11 :: .int .u16 ao :: .int .i64 ac0 :: .int .i64 ac1 :: .int .i64 ac2 :: .slice aa an ax :: .int .i64 ae :: .int .u8 as0 :: .int .u8 as1 :: .int .u8 as2 :: .int .u8 as3 :: .int .u8 as4 :: .int .u8 as5 :: .int .u8 as6 :: .int .u8 as7 :: .int .u8 as8 :: .int .i64 as9 :: .int .u8 as10 :: .int .i64 as11 :: .bool as12 :: .int .i64 as13 :: [])) 56)) y)
  case first =>
    rcases hx with ⟨x1, x2⟩ | x1
    all_goals
      go_wp2_with (first | (go_at_call 97; refine (plus_post (sty_is hsty hB.sty)).mono ?_; rintro e w' ⟨rfl, nx, rfl⟩) | (go_at_call 98; refine (plus_post (matMay_is hmat)).mono ?_; rintro e w' ⟨rfl, nx, rfl⟩) | (go_at_call 99; refine (plus_post (all_is hall)).mono ?_; rintro e w' ⟨rfl, nx, rfl⟩) | (go_at_call 100; refine (dist_is hdis (hl.ex (by with_reducible repeat (first | exact ex_refl _ | exact ex_more9 | apply ex_alloc | apply ex_plus | apply ex_drew | apply ex_drewN))) hn).mono ?_; rintro e w' ⟨rfl, nx, rfl⟩))
      go_meet
      exact ⟨by first | rfl | (congr 1; exact decide_eq_false (by omega)), (by with_reducible repeat (first | exact ex_refl _ | exact ex_more9 | apply ex_alloc | apply ex_plus | apply ex_drew | apply ex_drewN))⟩
  case rest =>
  obtain ⟨rfl, y1, rfl⟩ := hcut
  clear hx
  cases hm : eqmt ⟨⟨⟨am0, am1, am2⟩, ⟨am3, am4, am5⟩, ⟨am6, am7, am8⟩⟩, ⟨am9, am10, am11⟩⟩ ⟨⟨⟨0, 0, 0⟩, ⟨0, 0, 0⟩, ⟨0, 0, 0⟩⟩, ⟨0, 0, 0⟩⟩
  · have qM := eqM_is hm
    go_wp2_with (first | (go_at_call 97; refine (plus_post (sty_is hsty hB.sty)).mono ?_; rintro e w' ⟨rfl, nx, rfl⟩) | (go_at_call 98; refine (plus_post (matMay_is hmat)).mono ?_; rintro e w' ⟨rfl, nx, rfl⟩) | (go_at_call 99; refine (plus_post (all_is hall)).mono ?_; rintro e w' ⟨rfl, nx, rfl⟩) | (go_at_call 100; refine (dist_is hdis (hl.ex (by with_reducible repeat (first | exact ex_refl _ | exact ex_more9 | apply ex_alloc | apply ex_plus | apply ex_drew | apply ex_drewN))) hn).mono ?_; rintro e w' ⟨rfl, nx, rfl⟩))
    exact bodyPost_ret (v := .bool false) (by simp [results, Tryz.results51, go_sem]) rfl ⟨by rw [show mayNd mn tn ⟨⟨3, ⟨⟨⟨am0, am1, am2⟩, ⟨am3, am4, am5⟩, ⟨am6, am7, am8⟩⟩, ⟨am9, am10, am11⟩⟩, ao, ⟨ac0, ac1, ac2⟩, ae, ⟨as0, as1, as2, as3, as4, ⟨as5, as6, as7, as8, as9, as10, as11, as12, as13⟩⟩⟩, af⟩ = false by simp [mayNd, zeroM, zeroV, hm]], (by with_reducible repeat (first | exact ex_refl _ | exact ex_more9 | apply ex_alloc | apply ex_plus | apply ex_drew | apply ex_drewN))⟩
  have qM := eqM_is hm
  cases hc : eqv ⟨ac0, ac1, ac2⟩ ⟨0, 0, 0⟩
  · have qV := eqV_is hc
    go_wp2_with (first | (go_at_call 97; refine (plus_post (sty_is hsty hB.sty)).mono ?_; rintro e w' ⟨rfl, nx, rfl⟩) | (go_at_call 98; refine (plus_post (matMay_is hmat)).mono ?_; rintro e w' ⟨rfl, nx, rfl⟩) | (go_at_call 99; refine (plus_post (all_is hall)).mono ?_; rintro e w' ⟨rfl, nx, rfl⟩) | (go_at_call 100; refine (dist_is hdis (hl.ex (by with_reducible repeat (first | exact ex_refl _ | exact ex_more9 | apply ex_alloc | apply ex_plus | apply ex_drew | apply ex_drewN))) hn).mono ?_; rintro e w' ⟨rfl, nx, rfl⟩))
    exact bodyPost_ret (v := .bool false) (by simp [results, Tryz.results51, go_sem]) rfl ⟨by rw [show mayNd mn tn ⟨⟨3, ⟨⟨⟨am0, am1, am2⟩, ⟨am3, am4, am5⟩, ⟨am6, am7, am8⟩⟩, ⟨am9, am10, am11⟩⟩, ao, ⟨ac0, ac1, ac2⟩, ae, ⟨as0, as1, as2, as3, as4, ⟨as5, as6, as7, as8, as9, as10, as11, as12, as13⟩⟩⟩, af⟩ = false by simp [mayNd, zeroV, hc]], (by with_reducible repeat (first | exact ex_refl _ | exact ex_more9 | apply ex_alloc | apply ex_plus | apply ex_drew | apply ex_drewN))⟩
  have qV := eqV_is hc
  by_cases hf0 : an = 0
  rotate_left
  · have i0 : (0 : Int) < (an : Int) := by omega
    go_wp2_with (first | (go_at_call 97; refine (plus_post (sty_is hsty hB.sty)).mono ?_; rintro e w' ⟨rfl, nx, rfl⟩) | (go_at_call 98; refine (plus_post (matMay_is hmat)).mono ?_; rintro e w' ⟨rfl, nx, rfl⟩) | (go_at_call 99; refine (plus_post (all_is hall)).mono ?_; rintro e w' ⟨rfl, nx, rfl⟩) | (go_at_call 100; refine (dist_is hdis (hl.ex (by with_reducible repeat (first | exact ex_refl _ | exact ex_more9 | apply ex_alloc | apply ex_plus | apply ex_drew | apply ex_drewN))) hn).mono ?_; rintro e w' ⟨rfl, nx, rfl⟩))
    exact bodyPost_ret (v := .bool false) (by simp [results, Tryz.results51, go_sem]) rfl ⟨by rw [show mayNd mn tn ⟨⟨3, ⟨⟨⟨am0, am1, am2⟩, ⟨am3, am4, am5⟩, ⟨am6, am7, am8⟩⟩, ⟨am9, am10, am11⟩⟩, ao, ⟨ac0, ac1, ac2⟩, ae, ⟨as0, as1, as2, as3, as4, ⟨as5, as6, as7, as8, as9, as10, as11, as12, as13⟩⟩⟩, af⟩ = false by simp [mayNd, hlen, hf0]], (by with_reducible repeat (first | exact ex_refl _ | exact ex_more9 | apply ex_alloc | apply ex_plus | apply ex_drew | apply ex_drewN))⟩
  subst hf0
  obtain rfl := hl.zero
  by_cases he : ae = 0
  rotate_left
  · have dk : (ae == 0) = false := by rw [beq_eq_false_iff_ne]; exact he
    go_wp2_with (first | (go_at_call 97; refine (plus_post (sty_is hsty hB.sty)).mono ?_; rintro e w' ⟨rfl, nx, rfl⟩) | (go_at_call 98; refine (plus_post (matMay_is hmat)).mono ?_; rintro e w' ⟨rfl, nx, rfl⟩) | (go_at_call 99; refine (plus_post (all_is hall)).mono ?_; rintro e w' ⟨rfl, nx, rfl⟩) | (go_at_call 100; refine (dist_is hdis (hl.ex (by with_reducible repeat (first | exact ex_refl _ | exact ex_more9 | apply ex_alloc | apply ex_plus | apply ex_drew | apply ex_drewN))) hn).mono ?_; rintro e w' ⟨rfl, nx, rfl⟩))
    exact bodyPost_ret (v := .bool false) (by simp [results, Tryz.results51, go_sem]) rfl ⟨by rw [show mayNd mn tn ⟨⟨3, ⟨⟨⟨am0, am1, am2⟩, ⟨am3, am4, am5⟩, ⟨am6, am7, am8⟩⟩, ⟨am9, am10, am11⟩⟩, ao, ⟨ac0, ac1, ac2⟩, ae, ⟨as0, as1, as2, as3, as4, ⟨as5, as6, as7, as8, as9, as10, as11, as12, as13⟩⟩⟩, []⟩ = false by simp [mayNd, he]], (by with_reducible repeat (first | exact ex_refl _ | exact ex_more9 | apply ex_alloc | apply ex_plus | apply ex_drew | apply ex_drewN))⟩
  subst he
  obtain ⟨rfl, rfl, rfl⟩ : ac0 = 0 ∧ ac1 = 0 ∧ ac2 = 0 := by have := eqv_eq hc; simpa using this
  have hall : all3 ⟨0, 0, 0⟩ 4096 = true := rfl
  have hdis : distOk [] = true := rfl
  go_wp2_with (first | (go_at_call 97; refine (plus_post (sty_is hsty hB.sty)).mono ?_; rintro e w' ⟨rfl, nx, rfl⟩) | (go_at_call 98; refine (plus_post (matMay_is hmat)).mono ?_; rintro e w' ⟨rfl, nx, rfl⟩) | (go_at_call 99; refine (plus_post (all_is hall)).mono ?_; rintro e w' ⟨rfl, nx, rfl⟩) | (go_at_call 100; refine (dist_is hdis (hl.ex (by with_reducible repeat (first | exact ex_refl _ | exact ex_more9 | apply ex_alloc | apply ex_plus | apply ex_drew | apply ex_drewN))) hn).mono ?_; rintro e w' ⟨rfl, nx, rfl⟩))
  exact bodyPost_ret (v := .bool true) (by simp [results, Tryz.results51, go_sem]) rfl ⟨by rw [show mayNd mn tn ⟨⟨3, ⟨⟨⟨am0, am1, am2⟩, ⟨am3, am4, am5⟩, ⟨am6, am7, am8⟩⟩, ⟨am9, am10, am11⟩⟩, ao, ⟨0, 0, 0⟩, 0, ⟨as0, as1, as2, as3, as4, ⟨as5, as6, as7, as8, as9, as10, as11, as12, as13⟩⟩⟩, []⟩ = true by simp [mayNd, hsty, zeroM, zeroV, hm, zeroV, hc, hall, hdis, hy.it]], (by with_reducible repeat (first | exact ex_refl _ | exact ex_more9 | apply ex_alloc | apply ex_plus | apply ex_drew | apply ex_drewN))⟩

end

section


open Go.RowKit Go.ChangeShapes Go.WideShapes Go.ChangeAt

set_option linter.unusedSimpArgs false

set_option linter.unusedVariables false

attribute [local go_sem] plus_size plus_drew dn_set dn_alloc dn_plus plus_dn cell_plus frozen_plus set_plus cell_alloc frozen_alloc set_alloc

set_option maxRecDepth 100000 in
set_option maxHeartbeats 8000000 in
theorem mayNd_k4 (ga ka na ma ta : Option Addr) (gn gc kn kc nn nc mn mc tn tc : Nat) (r0 r1 : Int) (am0 am1 am2 am3 am4 am5 am6 am7 am8 am9 am10 am11 ao ac0 ac1 ac2 ae as0 as1 as2 as3 as4 as5 as6 as7 as8 as9 as10 as11 as13 : Int) (as12 : Bool) (aa : Option Addr) (an ax : Nat) (af : List Int) (w : World) (hB : NfB ⟨4, ⟨⟨⟨am0, am1, am2⟩, ⟨am3, am4, am5⟩, ⟨am6, am7, am8⟩⟩, ⟨am9, am10, am11⟩⟩, ao, ⟨ac0, ac1, ac2⟩, ae, ⟨as0, as1, as2, as3, as4, ⟨as5, as6, as7, as8, as9, as10, as11, as12, as13⟩⟩⟩) (hl : Lay fI w aa an af) (hn : an ≤ 9223372036854775807) (hsty : styOk ⟨as0, as1, as2, as3, as4, ⟨as5, as6, as7, as8, as9, as10, as11, as12, as13⟩⟩ = true) (htx : 0 < as1 → as9 < (tn : Int)) :
    Calls Tryz.prog 51 #[.agg #[.slice ga gn gc, .slice ka kn kc, .slice na nn nc, .slice ma mn mc, .slice ta tn tc, .int .i64 r0, .int .i64 r1], .agg (List.toArray (.int .u8 4 :: .int .i64 am0 :: .int .i64 am1 :: .int .i64 am2 :: .int .i64 am3 :: .int .i64 am4 :: .int .i64 am5 :: .int .i64 am6 :: .int .i64 am7 :: .int .i64 am8 :: .int .i64 am9 :: .int .i64 am10 :: .int .i64 am11 :: .int .u16 ao :: .int .i64 ac0 :: .int .i64 ac1 :: .int .i64 ac2 :: .slice aa an ax :: .int .i64 ae :: .int .u8 as0 :: .int .u8 as1 :: .int .u8 as2 :: .int .u8 as3 :: .int .u8 as4 :: .int .u8 as5 :: .int .u8 as6 :: .int .u8 as7 :: .int .u8 as8 :: .int .i64 as9 :: .int .u8 as10 :: .int .i64 as11 :: .bool as12 :: .int .i64 as13 :: []))] w fun e w' => e = .returned (.bool (mayNd mn tn ⟨⟨4, ⟨⟨⟨am0, am1, am2⟩, ⟨am3, am4, am5⟩, ⟨am6, am7, am8⟩⟩, ⟨am9, am10, am11⟩⟩, ao, ⟨ac0, ac1, ac2⟩, ae, ⟨as0, as1, as2, as3, as4, ⟨as5, as6, as7, as8, as9, as10, as11, as12, as13⟩⟩⟩, af⟩)) ∧ ∃ y, w' = plus w y := by
  have hlen := hl.len
  have hx : (0 < as1 ∧ as9 < (tn : Int)) ∨ ¬ 0 < as1 := by omega
  have hy : as1 ≤ 0 ∨ as9 < (tn : Int) := by omega
  replace hy := Hush9.mk hy
  clear htx
  go_enter Tryz.func51, Tryz.ntmps51
  go_upto_region 1 with fail
  go_cut [35] (fun v wx => v = .bool false ∧ ∃ y, wx = plus ((w.alloc (.cells #[.slice ga gn gc, .slice ka kn kc, .slice na nn nc, .slice ma mn mc, .slice ta tn tc, .int .i64 r0, .int .i64 r1] 34)).alloc (.cells (List.toArray (.int .u8 4 :: .int .i64 am0 :: .int .i64 am1 :: .int .i64 am2 :: .int .i64 am3 :: .int .i64 am4 :: .int .i64 am5 :: .int .i64 am6 :: .int .i64 am7 :: .int .i64 am8 :: .int .i64 am9 :: .int .i64 am10 :: .int .i64 am11 :: .int .u16 ao :: .int .i64 ac0 :: .int .i64 ac1 :: .int .i64 ac2 :: .slice aa an ax :: .int .i64 ae :: .int .u8 as0 :: .int .u8 as1 :: .int .u8 as2 :: .int .u8 as3 :: .int .u8 as4 :: .int .u8 as5 :: .int .u8 as6 :: .int .u8 as7 :: .int .u8 as8 :: .int .i64 as9 :: .int .u8 as10 :: .int .i64 as11 :: .bool as12 :: .int .i64 as13 :: [])) 56)) y)
  case first =>
    rcases hx with ⟨x1, x2⟩ | x1
    all_goals
      go_wp2_with (first | (go_at_call 97; refine (plus_post (sty_is hsty hB.sty)).mono ?_; rintro e w' ⟨rfl, nx, rfl⟩) | (go_at_call 98; refine (plus_post (matMay_is hmat)).mono ?_; rintro e w' ⟨rfl, nx, rfl⟩) | (go_at_call 99; refine (plus_post (all_is hall)).mono ?_; rintro e w' ⟨rfl, nx, rfl⟩) | (go_at_call 100; refine (dist_is hdis (hl.ex (by with_reducible repeat (first | exact ex_refl _ | exact ex_more9 | apply ex_alloc | apply ex_plus | apply ex_drew | apply ex_drewN))) hn).mono ?_; rintro e w' ⟨rfl, nx, rfl⟩))
      go_meet
      exact ⟨by first | rfl | (congr 1; exact decide_eq_false (by omega)), (by with_reducible repeat (first | exact ex_refl _ | exact ex_more9 | apply ex_alloc | apply ex_plus | apply ex_drew | apply ex_drewN))⟩
  case rest =>
  obtain ⟨rfl, y1, rfl⟩ := hcut
  clear hx
  cases hm : eqmt ⟨⟨⟨am0, am1, am2⟩, ⟨am3, am4, am5⟩, ⟨am6, am7, am8⟩⟩, ⟨am9, am10, am11⟩⟩ ⟨⟨⟨0, 0, 0⟩, ⟨0, 0, 0⟩, ⟨0, 0, 0⟩⟩, ⟨0, 0, 0⟩⟩
  · have qM := eqM_is hm
    go_wp2_with (first | (go_at_call 97; refine (plus_post (sty_is hsty hB.sty)).mono ?_; rintro e w' ⟨rfl, nx, rfl⟩) | (go_at_call 98; refine (plus_post (matMay_is hmat)).mono ?_; rintro e w' ⟨rfl, nx, rfl⟩) | (go_at_call 99; refine (plus_post (all_is hall)).mono ?_; rintro e w' ⟨rfl, nx, rfl⟩) | (go_at_call 100; refine (dist_is hdis (hl.ex (by with_reducible repeat (first | exact ex_refl _ | exact ex_more9 | apply ex_alloc | apply ex_plus | apply ex_drew | apply ex_drewN))) hn).mono ?_; rintro e w' ⟨rfl, nx, rfl⟩))
    exact bodyPost_ret (v := .bool false) (by simp [results, Tryz.results51, go_sem]) rfl ⟨by rw [show mayNd mn tn ⟨⟨4, ⟨⟨⟨am0, am1, am2⟩, ⟨am3, am4, am5⟩, ⟨am6, am7, am8⟩⟩, ⟨am9, am10, am11⟩⟩, ao, ⟨ac0, ac1, ac2⟩, ae, ⟨as0, as1, as2, as3, as4, ⟨as5, as6, as7, as8, as9, as10, as11, as12, as13⟩⟩⟩, af⟩ = false by simp [mayNd, zeroM, zeroV, hm]], (by with_reducible repeat (first | exact ex_refl _ | exact ex_more9 | apply ex_alloc | apply ex_plus | apply ex_drew | apply ex_drewN))⟩
  have qM := eqM_is hm
  by_cases ho : ao = 0
  rotate_left
  · have dk : (ao == 0) = false := by rw [beq_eq_false_iff_ne]; exact ho
    go_wp2_with (first | (go_at_call 97; refine (plus_post (sty_is hsty hB.sty)).mono ?_; rintro e w' ⟨rfl, nx, rfl⟩) | (go_at_call 98; refine (plus_post (matMay_is hmat)).mono ?_; rintro e w' ⟨rfl, nx, rfl⟩) | (go_at_call 99; refine (plus_post (all_is hall)).mono ?_; rintro e w' ⟨rfl, nx, rfl⟩) | (go_at_call 100; refine (dist_is hdis (hl.ex (by with_reducible repeat (first | exact ex_refl _ | exact ex_more9 | apply ex_alloc | apply ex_plus | apply ex_drew | apply ex_drewN))) hn).mono ?_; rintro e w' ⟨rfl, nx, rfl⟩))
    exact bodyPost_ret (v := .bool false) (by simp [results, Tryz.results51, go_sem]) rfl ⟨by rw [show mayNd mn tn ⟨⟨4, ⟨⟨⟨am0, am1, am2⟩, ⟨am3, am4, am5⟩, ⟨am6, am7, am8⟩⟩, ⟨am9, am10, am11⟩⟩, ao, ⟨ac0, ac1, ac2⟩, ae, ⟨as0, as1, as2, as3, as4, ⟨as5, as6, as7, as8, as9, as10, as11, as12, as13⟩⟩⟩, af⟩ = false by simp [mayNd, ho]], (by with_reducible repeat (first | exact ex_refl _ | exact ex_more9 | apply ex_alloc | apply ex_plus | apply ex_drew | apply ex_drewN))⟩
  subst ho
  by_cases he : ae = 0
  rotate_left
  · have dk : (ae == 0) = false := by rw [beq_eq_false_iff_ne]; exact he
    go_wp2_with (first | (go_at_call 97; refine (plus_post (sty_is hsty hB.sty)).mono ?_; rintro e w' ⟨rfl, nx, rfl⟩) | (go_at_call 98; refine (plus_post (matMay_is hmat)).mono ?_; rintro e w' ⟨rfl, nx, rfl⟩) | (go_at_call 99; refine (plus_post (all_is hall)).mono ?_; rintro e w' ⟨rfl, nx, rfl⟩) | (go_at_call 100; refine (dist_is hdis (hl.ex (by with_reducible repeat (first | exact ex_refl _ | exact ex_more9 | apply ex_alloc | apply ex_plus | apply ex_drew | apply ex_drewN))) hn).mono ?_; rintro e w' ⟨rfl, nx, rfl⟩))
    exact bodyPost_ret (v := .bool false) (by simp [results, Tryz.results51, go_sem]) rfl ⟨by rw [show mayNd mn tn ⟨⟨4, ⟨⟨⟨am0, am1, am2⟩, ⟨am3, am4, am5⟩, ⟨am6, am7, am8⟩⟩, ⟨am9, am10, am11⟩⟩, 0, ⟨ac0, ac1, ac2⟩, ae, ⟨as0, as1, as2, as3, as4, ⟨as5, as6, as7, as8, as9, as10, as11, as12, as13⟩⟩⟩, af⟩ = false by simp [mayNd, he]], (by with_reducible repeat (first | exact ex_refl _ | exact ex_more9 | apply ex_alloc | apply ex_plus | apply ex_drew | apply ex_drewN))⟩
  subst he
  cases hall : all3 ⟨ac0, ac1, ac2⟩ 4096
  · go_wp2_with (first | (go_at_call 97; refine (plus_post (sty_is hsty hB.sty)).mono ?_; rintro e w' ⟨rfl, nx, rfl⟩) | (go_at_call 98; refine (plus_post (matMay_is hmat)).mono ?_; rintro e w' ⟨rfl, nx, rfl⟩) | (go_at_call 99; refine (plus_post (all_is hall)).mono ?_; rintro e w' ⟨rfl, nx, rfl⟩) | (go_at_call 100; refine (dist_is hdis (hl.ex (by with_reducible repeat (first | exact ex_refl _ | exact ex_more9 | apply ex_alloc | apply ex_plus | apply ex_drew | apply ex_drewN))) hn).mono ?_; rintro e w' ⟨rfl, nx, rfl⟩))
    exact bodyPost_ret (v := .bool false) (by simp [results, Tryz.results51, go_sem]) rfl ⟨by rw [show mayNd mn tn ⟨⟨4, ⟨⟨⟨am0, am1, am2⟩, ⟨am3, am4, am5⟩, ⟨am6, am7, am8⟩⟩, ⟨am9, am10, am11⟩⟩, 0, ⟨ac0, ac1, ac2⟩, 0, ⟨as0, as1, as2, as3, as4, ⟨as5, as6, as7, as8, as9, as10, as11, as12, as13⟩⟩⟩, af⟩ = false by simp [mayNd, hall]], (by with_reducible repeat (first | exact ex_refl _ | exact ex_more9 | apply ex_alloc | apply ex_plus | apply ex_drew | apply ex_drewN))⟩
  cases hdis : distOk af
  · go_wp2_with (first | (go_at_call 97; refine (plus_post (sty_is hsty hB.sty)).mono ?_; rintro e w' ⟨rfl, nx, rfl⟩) | (go_at_call 98; refine (plus_post (matMay_is hmat)).mono ?_; rintro e w' ⟨rfl, nx, rfl⟩) | (go_at_call 99; refine (plus_post (all_is hall)).mono ?_; rintro e w' ⟨rfl, nx, rfl⟩) | (go_at_call 100; refine (dist_is hdis (hl.ex (by with_reducible repeat (first | exact ex_refl _ | exact ex_more9 | apply ex_alloc | apply ex_plus | apply ex_drew | apply ex_drewN))) hn).mono ?_; rintro e w' ⟨rfl, nx, rfl⟩))
    exact bodyPost_ret (v := .bool false) (by simp [results, Tryz.results51, go_sem]) rfl ⟨by rw [show mayNd mn tn ⟨⟨4, ⟨⟨⟨am0, am1, am2⟩, ⟨am3, am4, am5⟩, ⟨am6, am7, am8⟩⟩, ⟨am9, am10, am11⟩⟩, 0, ⟨ac0, ac1, ac2⟩, 0, ⟨as0, as1, as2, as3, as4, ⟨as5, as6, as7, as8, as9, as10, as11, as12, as13⟩⟩⟩, af⟩ = false by simp [mayNd, hdis]], (by with_reducible repeat (first | exact ex_refl _ | exact ex_more9 | apply ex_alloc | apply ex_plus | apply ex_drew | apply ex_drewN))⟩
  go_wp2_with (first | (go_at_call 97; refine (plus_post (sty_is hsty hB.sty)).mono ?_; rintro e w' ⟨rfl, nx, rfl⟩) | (go_at_call 98; refine (plus_post (matMay_is hmat)).mono ?_; rintro e w' ⟨rfl, nx, rfl⟩) | (go_at_call 99; refine (plus_post (all_is hall)).mono ?_; rintro e w' ⟨rfl, nx, rfl⟩) | (go_at_call 100; refine (dist_is hdis (hl.ex (by with_reducible repeat (first | exact ex_refl _ | exact ex_more9 | apply ex_alloc | apply ex_plus | apply ex_drew | apply ex_drewN))) hn).mono ?_; rintro e w' ⟨rfl, nx, rfl⟩))
  exact bodyPost_ret (v := .bool true) (by simp [results, Tryz.results51, go_sem]) rfl ⟨by rw [show mayNd mn tn ⟨⟨4, ⟨⟨⟨am0, am1, am2⟩, ⟨am3, am4, am5⟩, ⟨am6, am7, am8⟩⟩, ⟨am9, am10, am11⟩⟩, 0, ⟨ac0, ac1, ac2⟩, 0, ⟨as0, as1, as2, as3, as4, ⟨as5, as6, as7, as8, as9, as10, as11, as12, as13⟩⟩⟩, af⟩ = true by simp [mayNd, hsty, zeroM, zeroV, hm, hall, hdis, hy.it]], (by with_reducible repeat (first | exact ex_refl _ | exact ex_more9 | apply ex_alloc | apply ex_plus | apply ex_drew | apply ex_drewN))⟩

end

section


open Go.RowKit Go.ChangeShapes Go.WideShapes Go.ChangeAt

set_option linter.unusedSimpArgs false

set_option linter.unusedVariables false

attribute [local go_sem] plus_size plus_drew dn_set dn_alloc dn_plus plus_dn cell_plus frozen_plus set_plus cell_alloc frozen_alloc set_alloc

set_option maxRecDepth 100000 in
set_option maxHeartbeats 8000000 in
theorem mayNd_k5 (ga ka na ma ta : Option Addr) (gn gc kn kc nn nc mn mc tn tc : Nat) (r0 r1 : Int) (am0 am1 am2 am3 am4 am5 am6 am7 am8 am9 am10 am11 ao ac0 ac1 ac2 ae as0 as1 as2 as3 as4 as5 as6 as7 as8 as9 as10 as11 as13 : Int) (as12 : Bool) (aa : Option Addr) (an ax : Nat) (af : List Int) (w : World) (hB : NfB ⟨5, ⟨⟨⟨am0, am1, am2⟩, ⟨am3, am4, am5⟩, ⟨am6, am7, am8⟩⟩, ⟨am9, am10, am11⟩⟩, ao, ⟨ac0, ac1, ac2⟩, ae, ⟨as0, as1, as2, as3, as4, ⟨as5, as6, as7, as8, as9, as10, as11, as12, as13⟩⟩⟩) (hl : Lay fI w aa an af) (hn : an ≤ 9223372036854775807) (hsty : styOk ⟨as0, as1, as2, as3, as4, ⟨as5, as6, as7, as8, as9, as10, as11, as12, as13⟩⟩ = true) (htx : 0 < as1 → as9 < (tn : Int)) :
    Calls Tryz.prog 51 #[.agg #[.slice ga gn gc, .slice ka kn kc, .slice na nn nc, .slice ma mn mc, .slice ta tn tc, .int .i64 r0, .int .i64 r1], .agg (List.toArray (.int .u8 5 :: .int .i64 am0 :: .int .i64 am1 :: .int .i64 am2 :: .int .i64 am3 :: .int .i64 am4 :: .int .i64 am5 :: .int .i64 am6 :: .int .i64 am7 :: .int .i64 am8 :: .int .i64 am9 :: .int .i64 am10 :: .int .i64 am11 :: .int .u16 ao :: .int .i64 ac0 :: .int .i64 ac1 :: .int .i64 ac2 :: .slice aa an ax :: .int .i64 ae :: .int .u8 as0 :: .int .u8 as1 :: .int .u8 as2 :: .int .u8 as3 :: .int .u8 as4 :: .int .u8 as5 :: .int .u8 as6 :: .int .u8 as7 :: .int .u8 as8 :: .int .i64 as9 :: .int .u8 as10 :: .int .i64 as11 :: .bool as12 :: .int .i64 as13 :: []))] w fun e w' => e = .returned (.bool (mayNd mn tn ⟨⟨5, ⟨⟨⟨am0, am1, am2⟩, ⟨am3, am4, am5⟩, ⟨am6, am7, am8⟩⟩, ⟨am9, am10, am11⟩⟩, ao, ⟨ac0, ac1, ac2⟩, ae, ⟨as0, as1, as2, as3, as4, ⟨as5, as6, as7, as8, as9, as10, as11, as12, as13⟩⟩⟩, af⟩)) ∧ ∃ y, w' = plus w y := by
  have hlen := hl.len
  have hx : (0 < as1 ∧ as9 < (tn : Int)) ∨ ¬ 0 < as1 := by omega
  have hy : as1 ≤ 0 ∨ as9 < (tn : Int) := by omega
  replace hy := Hush9.mk hy
  clear htx
  go_enter Tryz.func51, Tryz.ntmps51
  go_upto_region 1 with fail
  go_cut [35] (fun v wx => v = .bool false ∧ ∃ y, wx = plus ((w.alloc (.cells #[.slice ga gn gc, .slice ka kn kc, .slice na nn nc, .slice ma mn mc, .slice ta tn tc, .int .i64 r0, .int .i64 r1] 34)).alloc (.cells (List.toArray (.int .u8 5 :: .int .i64 am0 :: .int .i64 am1 :: .int .i64 am2 :: .int .i64 am3 :: .int .i64 am4 :: .int .i64 am5 :: .int .i64 am6 :: .int .i64 am7 :: .int .i64 am8 :: .int .i64 am9 :: .int .i64 am10 :: .int .i64 am11 :: .int .u16 ao :: .int .i64 ac0 :: .int .i64 ac1 :: .int .i64 ac2 :: .slice aa an ax :: .int .i64 ae :: .int .u8 as0 :: .int .u8 as1 :: .int .u8 as2 :: .int .u8 as3 :: .int .u8 as4 :: .int .u8 as5 :: .int .u8 as6 :: .int .u8 as7 :: .int .u8 as8 :: .int .i64 as9 :: .int .u8 as10 :: .int .i64 as11 :: .bool as12 :: .int .i64 as13 :: [])) 56)) y)
  case first =>
    rcases hx with ⟨x1, x2⟩ | x1
    all_goals
      go_wp2_with (first | (go_at_call 97; refine (plus_post (sty_is hsty hB.sty)).mono ?_; rintro e w' ⟨rfl, nx, rfl⟩) | (go_at_call 98; refine (plus_post (matMay_is hmat)).mono ?_; rintro e w' ⟨rfl, nx, rfl⟩) | (go_at_call 99; refine (plus_post (all_is hall)).mono ?_; rintro e w' ⟨rfl, nx, rfl⟩) | (go_at_call 100; refine (dist_is hdis (hl.ex (by with_reducible repeat (first | exact ex_refl _ | exact ex_more9 | apply ex_alloc | apply ex_plus | apply ex_drew | apply ex_drewN))) hn).mono ?_; rintro e w' ⟨rfl, nx, rfl⟩))
      go_meet
      exact ⟨by first | rfl | (congr 1; exact decide_eq_false (by omega)), (by with_reducible repeat (first | exact ex_refl _ | exact ex_more9 | apply ex_alloc | apply ex_plus | apply ex_drew | apply ex_drewN))⟩
  case rest =>
  obtain ⟨rfl, y1, rfl⟩ := hcut
  clear hx
  cases hm : eqmt ⟨⟨⟨am0, am1, am2⟩, ⟨am3, am4, am5⟩, ⟨am6, am7, am8⟩⟩, ⟨am9, am10, am11⟩⟩ ⟨⟨⟨0, 0, 0⟩, ⟨0, 0, 0⟩, ⟨0, 0, 0⟩⟩, ⟨0, 0, 0⟩⟩
  · have qM := eqM_is hm
    go_wp2_with (first | (go_at_call 97; refine (plus_post (sty_is hsty hB.sty)).mono ?_; rintro e w' ⟨rfl, nx, rfl⟩) | (go_at_call 98; refine (plus_post (matMay_is hmat)).mono ?_; rintro e w' ⟨rfl, nx, rfl⟩) | (go_at_call 99; refine (plus_post (all_is hall)).mono ?_; rintro e w' ⟨rfl, nx, rfl⟩) | (go_at_call 100; refine (dist_is hdis (hl.ex (by with_reducible repeat (first | exact ex_refl _ | exact ex_more9 | apply ex_alloc | apply ex_plus | apply ex_drew | apply ex_drewN))) hn).mono ?_; rintro e w' ⟨rfl, nx, rfl⟩))
    exact bodyPost_ret (v := .bool false) (by simp [results, Tryz.results51, go_sem]) rfl ⟨by rw [show mayNd mn tn ⟨⟨5, ⟨⟨⟨am0, am1, am2⟩, ⟨am3, am4, am5⟩, ⟨am6, am7, am8⟩⟩, ⟨am9, am10, am11⟩⟩, ao, ⟨ac0, ac1, ac2⟩, ae, ⟨as0, as1, as2, as3, as4, ⟨as5, as6, as7, as8, as9, as10, as11, as12, as13⟩⟩⟩, af⟩ = false by simp [mayNd, zeroM, zeroV, hm]], (by with_reducible repeat (first | exact ex_refl _ | exact ex_more9 | apply ex_alloc | apply ex_plus | apply ex_drew | apply ex_drewN))⟩
  have qM := eqM_is hm
  by_cases ho : ao = 0
  rotate_left
  · have dk : (ao == 0) = false := by rw [beq_eq_false_iff_ne]; exact ho
    go_wp2_with (first | (go_at_call 97; refine (plus_post (sty_is hsty hB.sty)).mono ?_; rintro e w' ⟨rfl, nx, rfl⟩) | (go_at_call 98; refine (plus_post (matMay_is hmat)).mono ?_; rintro e w' ⟨rfl, nx, rfl⟩) | (go_at_call 99; refine (plus_post (all_is hall)).mono ?_; rintro e w' ⟨rfl, nx, rfl⟩) | (go_at_call 100; refine (dist_is hdis (hl.ex (by with_reducible repeat (first | exact ex_refl _ | exact ex_more9 | apply ex_alloc | apply ex_plus | apply ex_drew | apply ex_drewN))) hn).mono ?_; rintro e w' ⟨rfl, nx, rfl⟩))
    exact bodyPost_ret (v := .bool false) (by simp [results, Tryz.results51, go_sem]) rfl ⟨by rw [show mayNd mn tn ⟨⟨5, ⟨⟨⟨am0, am1, am2⟩, ⟨am3, am4, am5⟩, ⟨am6, am7, am8⟩⟩, ⟨am9, am10, am11⟩⟩, ao, ⟨ac0, ac1, ac2⟩, ae, ⟨as0, as1, as2, as3, as4, ⟨as5, as6, as7, as8, as9, as10, as11, as12, as13⟩⟩⟩, af⟩ = false by simp [mayNd, ho]], (by with_reducible repeat (first | exact ex_refl _ | exact ex_more9 | apply ex_alloc | apply ex_plus | apply ex_drew | apply ex_drewN))⟩
  subst ho
  cases hc : eqv ⟨ac0, ac1, ac2⟩ ⟨0, 0, 0⟩
  · have qV := eqV_is hc
    go_wp2_with (first | (go_at_call 97; refine (plus_post (sty_is hsty hB.sty)).mono ?_; rintro e w' ⟨rfl, nx, rfl⟩) | (go_at_call 98; refine (plus_post (matMay_is hmat)).mono ?_; rintro e w' ⟨rfl, nx, rfl⟩) | (go_at_call 99; refine (plus_post (all_is hall)).mono ?_; rintro e w' ⟨rfl, nx, rfl⟩) | (go_at_call 100; refine (dist_is hdis (hl.ex (by with_reducible repeat (first | exact ex_refl _ | exact ex_more9 | apply ex_alloc | apply ex_plus | apply ex_drew | apply ex_drewN))) hn).mono ?_; rintro e w' ⟨rfl, nx, rfl⟩))
    exact bodyPost_ret (v := .bool false) (by simp [results, Tryz.results51, go_sem]) rfl ⟨by rw [show mayNd mn tn ⟨⟨5, ⟨⟨⟨am0, am1, am2⟩, ⟨am3, am4, am5⟩, ⟨am6, am7, am8⟩⟩, ⟨am9, am10, am11⟩⟩, 0, ⟨ac0, ac1, ac2⟩, ae, ⟨as0, as1, as2, as3, as4, ⟨as5, as6, as7, as8, as9, as10, as11, as12, as13⟩⟩⟩, af⟩ = false by simp [mayNd, zeroV, hc]], (by with_reducible repeat (first | exact ex_refl _ | exact ex_more9 | apply ex_alloc | apply ex_plus | apply ex_drew | apply ex_drewN))⟩
  have qV := eqV_is hc
  by_cases hf0 : an = 0
  rotate_left
  · have i0 : (0 : Int) < (an : Int) := by omega
    go_wp2_with (first | (go_at_call 97; refine (plus_post (sty_is hsty hB.sty)).mono ?_; rintro e w' ⟨rfl, nx, rfl⟩) | (go_at_call 98; refine (plus_post (matMay_is hmat)).mono ?_; rintro e w' ⟨rfl, nx, rfl⟩) | (go_at_call 99; refine (plus_post (all_is hall)).mono ?_; rintro e w' ⟨rfl, nx, rfl⟩) | (go_at_call 100; refine (dist_is hdis (hl.ex (by with_reducible repeat (first | exact ex_refl _ | exact ex_more9 | apply ex_alloc | apply ex_plus | apply ex_drew | apply ex_drewN))) hn).mono ?_; rintro e w' ⟨rfl, nx, rfl⟩))
    exact bodyPost_ret (v := .bool false) (by simp [results, Tryz.results51, go_sem]) rfl ⟨by rw [show mayNd mn tn ⟨⟨5, ⟨⟨⟨am0, am1, am2⟩, ⟨am3, am4, am5⟩, ⟨am6, am7, am8⟩⟩, ⟨am9, am10, am11⟩⟩, 0, ⟨ac0, ac1, ac2⟩, ae, ⟨as0, as1, as2, as3, as4, ⟨as5, as6, as7, as8, as9, as10, as11, as12, as13⟩⟩⟩, af⟩ = false by simp [mayNd, hlen, hf0]], (by with_reducible repeat (first | exact ex_refl _ | exact ex_more9 | apply ex_alloc | apply ex_plus | apply ex_drew | apply ex_drewN))⟩
  subst hf0
  obtain rfl := hl.zero
  by_cases h0 : ae < 0
  · go_wp2_with (first | (go_at_call 97; refine (plus_post (sty_is hsty hB.sty)).mono ?_; rintro e w' ⟨rfl, nx, rfl⟩) | (go_at_call 98; refine (plus_post (matMay_is hmat)).mono ?_; rintro e w' ⟨rfl, nx, rfl⟩) | (go_at_call 99; refine (plus_post (all_is hall)).mono ?_; rintro e w' ⟨rfl, nx, rfl⟩) | (go_at_call 100; refine (dist_is hdis (hl.ex (by with_reducible repeat (first | exact ex_refl _ | exact ex_more9 | apply ex_alloc | apply ex_plus | apply ex_drew | apply ex_drewN))) hn).mono ?_; rintro e w' ⟨rfl, nx, rfl⟩))
    exact bodyPost_ret (v := .bool false) (by simp [results, Tryz.results51, go_sem]) rfl ⟨by rw [show mayNd mn tn ⟨⟨5, ⟨⟨⟨am0, am1, am2⟩, ⟨am3, am4, am5⟩, ⟨am6, am7, am8⟩⟩, ⟨am9, am10, am11⟩⟩, 0, ⟨ac0, ac1, ac2⟩, ae, ⟨as0, as1, as2, as3, as4, ⟨as5, as6, as7, as8, as9, as10, as11, as12, as13⟩⟩⟩, []⟩ = false by simp [mayNd, show ¬ 0 ≤ ae by omega]], (by with_reducible repeat (first | exact ex_refl _ | exact ex_more9 | apply ex_alloc | apply ex_plus | apply ex_drew | apply ex_drewN))⟩
  by_cases h1 : ae < (mn : Int)
  rotate_left
  · go_wp2_with (first | (go_at_call 97; refine (plus_post (sty_is hsty hB.sty)).mono ?_; rintro e w' ⟨rfl, nx, rfl⟩) | (go_at_call 98; refine (plus_post (matMay_is hmat)).mono ?_; rintro e w' ⟨rfl, nx, rfl⟩) | (go_at_call 99; refine (plus_post (all_is hall)).mono ?_; rintro e w' ⟨rfl, nx, rfl⟩) | (go_at_call 100; refine (dist_is hdis (hl.ex (by with_reducible repeat (first | exact ex_refl _ | exact ex_more9 | apply ex_alloc | apply ex_plus | apply ex_drew | apply ex_drewN))) hn).mono ?_; rintro e w' ⟨rfl, nx, rfl⟩))
    exact bodyPost_ret (v := .bool false) (by simp [results, Tryz.results51, go_sem]) rfl ⟨by rw [show mayNd mn tn ⟨⟨5, ⟨⟨⟨am0, am1, am2⟩, ⟨am3, am4, am5⟩, ⟨am6, am7, am8⟩⟩, ⟨am9, am10, am11⟩⟩, 0, ⟨ac0, ac1, ac2⟩, ae, ⟨as0, as1, as2, as3, as4, ⟨as5, as6, as7, as8, as9, as10, as11, as12, as13⟩⟩⟩, []⟩ = false by simp [mayNd, h1]], (by with_reducible repeat (first | exact ex_refl _ | exact ex_more9 | apply ex_alloc | apply ex_plus | apply ex_drew | apply ex_drewN))⟩
  go_wp2_with (first | (go_at_call 97; refine (plus_post (sty_is hsty hB.sty)).mono ?_; rintro e w' ⟨rfl, nx, rfl⟩) | (go_at_call 98; refine (plus_post (matMay_is hmat)).mono ?_; rintro e w' ⟨rfl, nx, rfl⟩) | (go_at_call 99; refine (plus_post (all_is hall)).mono ?_; rintro e w' ⟨rfl, nx, rfl⟩) | (go_at_call 100; refine (dist_is hdis (hl.ex (by with_reducible repeat (first | exact ex_refl _ | exact ex_more9 | apply ex_alloc | apply ex_plus | apply ex_drew | apply ex_drewN))) hn).mono ?_; rintro e w' ⟨rfl, nx, rfl⟩))
  exact bodyPost_ret (v := .bool true) (by simp [results, Tryz.results51, go_sem]) rfl ⟨by rw [show mayNd mn tn ⟨⟨5, ⟨⟨⟨am0, am1, am2⟩, ⟨am3, am4, am5⟩, ⟨am6, am7, am8⟩⟩, ⟨am9, am10, am11⟩⟩, 0, ⟨ac0, ac1, ac2⟩, ae, ⟨as0, as1, as2, as3, as4, ⟨as5, as6, as7, as8, as9, as10, as11, as12, as13⟩⟩⟩, []⟩ = true by simp [mayNd, hsty, zeroM, zeroV, hm, zeroV, hc, h1, show 0 ≤ ae by omega, hy.it]], (by with_reducible repeat (first | exact ex_refl _ | exact ex_more9 | apply ex_alloc | apply ex_plus | apply ex_drew | apply ex_drewN))⟩

end

section


open Go.RowKit Go.ChangeShapes Go.WideShapes Go.ChangeAt

set_option linter.unusedSimpArgs false

set_option linter.unusedVariables false

attribute [local go_sem] plus_size plus_drew dn_set dn_alloc dn_plus plus_dn cell_plus frozen_plus set_plus cell_alloc frozen_alloc set_alloc

set_option maxRecDepth 100000 in
set_option maxHeartbeats 8000000 in
theorem mayNd_calls (ga ka na ma ta : Option Addr) (gn gc kn kc nn nc mn mc tn tc : Nat) (r0 r1 : Int) (ak am0 am1 am2 am3 am4 am5 am6 am7 am8 am9 am10 am11 ao ac0 ac1 ac2 ae as0 as1 as2 as3 as4 as5 as6 as7 as8 as9 as10 as11 as13 : Int) (as12 : Bool) (aa : Option Addr) (an ax : Nat) (af : List Int) (w : World) (hB : NfB ⟨ak, ⟨⟨⟨am0, am1, am2⟩, ⟨am3, am4, am5⟩, ⟨am6, am7, am8⟩⟩, ⟨am9, am10, am11⟩⟩, ao, ⟨ac0, ac1, ac2⟩, ae, ⟨as0, as1, as2, as3, as4, ⟨as5, as6, as7, as8, as9, as10, as11, as12, as13⟩⟩⟩) (hl : Lay fI w aa an af) (hn : an ≤ 9223372036854775807) :
    Calls Tryz.prog 51 #[.agg #[.slice ga gn gc, .slice ka kn kc, .slice na nn nc, .slice ma mn mc, .slice ta tn tc, .int .i64 r0, .int .i64 r1], .agg (List.toArray (.int .u8 ak :: .int .i64 am0 :: .int .i64 am1 :: .int .i64 am2 :: .int .i64 am3 :: .int .i64 am4 :: .int .i64 am5 :: .int .i64 am6 :: .int .i64 am7 :: .int .i64 am8 :: .int .i64 am9 :: .int .i64 am10 :: .int .i64 am11 :: .int .u16 ao :: .int .i64 ac0 :: .int .i64 ac1 :: .int .i64 ac2 :: .slice aa an ax :: .int .i64 ae :: .int .u8 as0 :: .int .u8 as1 :: .int .u8 as2 :: .int .u8 as3 :: .int .u8 as4 :: .int .u8 as5 :: .int .u8 as6 :: .int .u8 as7 :: .int .u8 as8 :: .int .i64 as9 :: .int .u8 as10 :: .int .i64 as11 :: .bool as12 :: .int .i64 as13 :: []))] w fun e w' => e = .returned (.bool (mayNd mn tn ⟨⟨ak, ⟨⟨⟨am0, am1, am2⟩, ⟨am3, am4, am5⟩, ⟨am6, am7, am8⟩⟩, ⟨am9, am10, am11⟩⟩, ao, ⟨ac0, ac1, ac2⟩, ae, ⟨as0, as1, as2, as3, as4, ⟨as5, as6, as7, as8, as9, as10, as11, as12, as13⟩⟩⟩, af⟩)) ∧ ∃ y, w' = plus w y := by
  by_cases k0 : ak < 1
  · rw [show mayNd mn tn ⟨⟨ak, ⟨⟨⟨am0, am1, am2⟩, ⟨am3, am4, am5⟩, ⟨am6, am7, am8⟩⟩, ⟨am9, am10, am11⟩⟩, ao, ⟨ac0, ac1, ac2⟩, ae, ⟨as0, as1, as2, as3, as4, ⟨as5, as6, as7, as8, as9, as10, as11, as12, as13⟩⟩⟩, af⟩ = false by simp [mayNd, show ¬ 1 ≤ ak by omega]]
    go_enter Tryz.func51, Tryz.ntmps51
    go_wp2_with (first | (go_at_call 97; refine (plus_post (sty_is hsty hB.sty)).mono ?_; rintro e w' ⟨rfl, nx, rfl⟩) | (go_at_call 98; refine (plus_post (matMay_is hmat)).mono ?_; rintro e w' ⟨rfl, nx, rfl⟩) | (go_at_call 99; refine (plus_post (all_is hall)).mono ?_; rintro e w' ⟨rfl, nx, rfl⟩) | (go_at_call 100; refine (dist_is hdis (hl.ex (by with_reducible repeat (first | exact ex_refl _ | exact ex_more9 | apply ex_alloc | apply ex_plus | apply ex_drew | apply ex_drewN))) hn).mono ?_; rintro e w' ⟨rfl, nx, rfl⟩))
    exact bodyPost_ret (v := .bool false) (by simp [results, Tryz.results51, go_sem]) rfl ⟨rfl, (by with_reducible repeat (first | exact ex_refl _ | exact ex_more9 | apply ex_alloc | apply ex_plus | apply ex_drew | apply ex_drewN))⟩
  by_cases k1 : 5 < ak
  · rw [show mayNd mn tn ⟨⟨ak, ⟨⟨⟨am0, am1, am2⟩, ⟨am3, am4, am5⟩, ⟨am6, am7, am8⟩⟩, ⟨am9, am10, am11⟩⟩, ao, ⟨ac0, ac1, ac2⟩, ae, ⟨as0, as1, as2, as3, as4, ⟨as5, as6, as7, as8, as9, as10, as11, as12, as13⟩⟩⟩, af⟩ = false by simp [mayNd, show ¬ ak ≤ 5 by omega]]
    go_enter Tryz.func51, Tryz.ntmps51
    go_wp2_with (first | (go_at_call 97; refine (plus_post (sty_is hsty hB.sty)).mono ?_; rintro e w' ⟨rfl, nx, rfl⟩) | (go_at_call 98; refine (plus_post (matMay_is hmat)).mono ?_; rintro e w' ⟨rfl, nx, rfl⟩) | (go_at_call 99; refine (plus_post (all_is hall)).mono ?_; rintro e w' ⟨rfl, nx, rfl⟩) | (go_at_call 100; refine (dist_is hdis (hl.ex (by with_reducible repeat (first | exact ex_refl _ | exact ex_more9 | apply ex_alloc | apply ex_plus | apply ex_drew | apply ex_drewN))) hn).mono ?_; rintro e w' ⟨rfl, nx, rfl⟩))
    exact bodyPost_ret (v := .bool false) (by simp [results, Tryz.results51, go_sem]) rfl ⟨rfl, (by with_reducible repeat (first | exact ex_refl _ | exact ex_more9 | apply ex_alloc | apply ex_plus | apply ex_drew | apply ex_drewN))⟩
  cases hsty : styOk ⟨as0, as1, as2, as3, as4, ⟨as5, as6, as7, as8, as9, as10, as11, as12, as13⟩⟩
  · rw [show mayNd mn tn ⟨⟨ak, ⟨⟨⟨am0, am1, am2⟩, ⟨am3, am4, am5⟩, ⟨am6, am7, am8⟩⟩, ⟨am9, am10, am11⟩⟩, ao, ⟨ac0, ac1, ac2⟩, ae, ⟨as0, as1, as2, as3, as4, ⟨as5, as6, as7, as8, as9, as10, as11, as12, as13⟩⟩⟩, af⟩ = false by simp [mayNd, hsty]]
    go_enter Tryz.func51, Tryz.ntmps51
    go_wp2_with (first | (go_at_call 97; refine (plus_post (sty_is hsty hB.sty)).mono ?_; rintro e w' ⟨rfl, nx, rfl⟩) | (go_at_call 98; refine (plus_post (matMay_is hmat)).mono ?_; rintro e w' ⟨rfl, nx, rfl⟩) | (go_at_call 99; refine (plus_post (all_is hall)).mono ?_; rintro e w' ⟨rfl, nx, rfl⟩) | (go_at_call 100; refine (dist_is hdis (hl.ex (by with_reducible repeat (first | exact ex_refl _ | exact ex_more9 | apply ex_alloc | apply ex_plus | apply ex_drew | apply ex_drewN))) hn).mono ?_; rintro e w' ⟨rfl, nx, rfl⟩))
    exact bodyPost_ret (v := .bool false) (by simp [results, Tryz.results51, go_sem]) rfl ⟨rfl, (by with_reducible repeat (first | exact ex_refl _ | exact ex_more9 | apply ex_alloc | apply ex_plus | apply ex_drew | apply ex_drewN))⟩
  by_cases x1 : 0 < as1 ∧ (tn : Int) ≤ as9
  · obtain ⟨x1, x2⟩ := x1
    rw [show mayNd mn tn ⟨⟨ak, ⟨⟨⟨am0, am1, am2⟩, ⟨am3, am4, am5⟩, ⟨am6, am7, am8⟩⟩, ⟨am9, am10, am11⟩⟩, ao, ⟨ac0, ac1, ac2⟩, ae, ⟨as0, as1, as2, as3, as4, ⟨as5, as6, as7, as8, as9, as10, as11, as12, as13⟩⟩⟩, af⟩ = false by simp [mayNd, x1, x2]]
    go_enter Tryz.func51, Tryz.ntmps51
    go_wp2_with (first | (go_at_call 97; refine (plus_post (sty_is hsty hB.sty)).mono ?_; rintro e w' ⟨rfl, nx, rfl⟩) | (go_at_call 98; refine (plus_post (matMay_is hmat)).mono ?_; rintro e w' ⟨rfl, nx, rfl⟩) | (go_at_call 99; refine (plus_post (all_is hall)).mono ?_; rintro e w' ⟨rfl, nx, rfl⟩) | (go_at_call 100; refine (dist_is hdis (hl.ex (by with_reducible repeat (first | exact ex_refl _ | exact ex_more9 | apply ex_alloc | apply ex_plus | apply ex_drew | apply ex_drewN))) hn).mono ?_; rintro e w' ⟨rfl, nx, rfl⟩))
    exact bodyPost_ret (v := .bool false) (by simp [results, Tryz.results51, go_sem]) rfl ⟨rfl, (by with_reducible repeat (first | exact ex_refl _ | exact ex_more9 | apply ex_alloc | apply ex_plus | apply ex_drew | apply ex_drewN))⟩
  rcases (show ak = 1 ∨ ak = 2 ∨ ak = 3 ∨ ak = 4 ∨ ak = 5 by omega) with rfl | rfl | rfl | rfl | rfl
  · exact mayNd_k1 ga ka na ma ta gn gc kn kc nn nc mn mc tn tc r0 r1 am0 am1 am2 am3 am4 am5 am6 am7 am8 am9 am10 am11 ao ac0 ac1 ac2 ae as0 as1 as2 as3 as4 as5 as6 as7 as8 as9 as10 as11 as13 as12 aa an ax af w hB hl hn hsty (by omega)
  · exact mayNd_k2 ga ka na ma ta gn gc kn kc nn nc mn mc tn tc r0 r1 am0 am1 am2 am3 am4 am5 am6 am7 am8 am9 am10 am11 ao ac0 ac1 ac2 ae as0 as1 as2 as3 as4 as5 as6 as7 as8 as9 as10 as11 as13 as12 aa an ax af w hB hl hn hsty (by omega)
  · exact mayNd_k3 ga ka na ma ta gn gc kn kc nn nc mn mc tn tc r0 r1 am0 am1 am2 am3 am4 am5 am6 am7 am8 am9 am10 am11 ao ac0 ac1 ac2 ae as0 as1 as2 as3 as4 as5 as6 as7 as8 as9 as10 as11 as13 as12 aa an ax af w hB hl hn hsty (by omega)
  · exact mayNd_k4 ga ka na ma ta gn gc kn kc nn nc mn mc tn tc r0 r1 am0 am1 am2 am3 am4 am5 am6 am7 am8 am9 am10 am11 ao ac0 ac1 ac2 ae as0 as1 as2 as3 as4 as5 as6 as7 as8 as9 as10 as11 as13 as12 aa an ax af w hB hl hn hsty (by omega)
  · exact mayNd_k5 ga ka na ma ta gn gc kn kc nn nc mn mc tn tc r0 r1 am0 am1 am2 am3 am4 am5 am6 am7 am8 am9 am10 am11 ao ac0 ac1 ac2 ae as0 as1 as2 as3 as4 as5 as6 as7 as8 as9 as10 as11 as13 as12 aa an ax af w hB hl hn hsty (by omega)

theorem mayNd_at {ga ka na ma ta : Option Addr} {gn gc kn kc nn nc mn mc tn tc : Nat} {r0 r1 : Int} {h : NH} {n : Nd} {w : World} (hN : NodeAt w h n) {b : Bool} (hb : mayNd mn tn n = b) :
    Calls Tryz.prog 51 #[.agg #[.slice ga gn gc, .slice ka kn kc, .slice na nn nc, .slice ma mn mc, .slice ta tn tc, .int .i64 r0, .int .i64 r1], vN h] w fun e w' => e = .returned (.bool b) ∧ ∃ y, w' = plus w y := by
  subst hb
  obtain ⟨⟨k, ⟨⟨⟨m0, m1, m2⟩, ⟨m3, m4, m5⟩, ⟨m6, m7, m8⟩⟩, ⟨m9, m10, m11⟩⟩, o, ⟨c0, c1, c2⟩, me, ⟨s0, s1, s2, s3, s4, ⟨s5, s6, s7, s8, s9, s10, s11, s12, s13⟩⟩⟩, aa, an, ax⟩ := h
  obtain ⟨f, far⟩ := n
  obtain rfl := hN.f
  exact mayNd_calls _ _ _ _ _ _ _ _ _ _ _ _ _ _ _ _ _ _ _ _ _ _ _ _ _ _ _ _ _ _ _ _ _ _ _ _ _ _ _ _ _ _ _ _ _ _ _ _ _ _ _ _ far w hN.b hN.lay hN.le

end

section


open Go.RowKit Go.ChangeShapes Go.WideShapes Go.ChangeAt

set_option linter.unusedSimpArgs false

set_option linter.unusedVariables false

attribute [local go_sem] plus_size plus_drew dn_set dn_alloc dn_plus plus_dn cell_plus frozen_plus set_plus cell_alloc frozen_alloc set_alloc

set_option maxHeartbeats 2000000 in
theorem stripOf_calls (ao : Option Addr) (n cap : Nat) (ix : List Int) (w : World) (hl : Lay fI w ao n ix) (hn : n ≤ 10000) :
    Calls Tryz.prog 191 #[.slice ao n cap] w fun e w' => ∃ ao' cap', e = .returned (.slice ao' (n - 2) cap') ∧ (∃ y, w' = plus w y) ∧ Own 40 3 fV w w' ao' (n - 2) cap' (firsts (stripT ix) (n - 2)) := by
  go_enter Tryz.func191, Tryz.ntmps191
  go_wp2
  go_loopw [3, 4] (fun v i wr => ∃ (k : Nat) (ao' : Option Addr) (cap' : Nat), k ≤ n - 2 ∧ i = .int .i64 (k : Nat) ∧ v = .slice ao' k cap' ∧ (∃ y, wr = plus w y) ∧ Own 40 3 fV w wr ao' k cap' (firsts (stripT ix) k)) (fun _ i _ => n - (intOf i).toNat)
  case atStart => exact ⟨0, none, 0, by omega, rfl, rfl, (by with_reducible repeat (first | exact ex_refl _ | exact ex_moreM | apply ex_alloc | apply ex_plus | apply ex_drew | apply ex_drewN)), own_nil⟩
  case round =>
    obtain ⟨k, ao', cap', hk, rfl, rfl, ⟨y, rfl⟩, hown⟩ := hrel
    by_cases hkl : k + 2 < n
    · obtain ⟨g, off, rfl, hg, hcell⟩ := hl.some (by omega)
      have c0 := cellI hl.len hcell (k := k) (by omega)
      have c1 := cellI hl.len hcell (k := k + 1) (by omega)
      have c2 := cellI hl.len hcell (k := k + 2) (by omega)
      have ik0 : (k : Int) < (n : Int) := by omega
      have ik1 : (k : Int) + 1 < (n : Int) := by omega
      have ip1 : (0 : Int) ≤ (k : Int) + 1 := by omega
      have iw1 : IntKind.i64.wrap ((k : Int) + 1) = (k : Int) + 1 := wrap_leM (by omega)
      have it1 : ((k : Int) + 1).toNat = k + 1 := by omega
      have ik2 : (k : Int) + 2 < (n : Int) := by omega
      have ip2 : (0 : Int) ≤ (k : Int) + 2 := by omega
      have iw2 : IntKind.i64.wrap ((k : Int) + 2) = (k : Int) + 2 := wrap_leM (by omega)
      have it2 : ((k : Int) + 2).toNat = k + 2 := by omega
      go_wp2
      refine region_fresh 15 5 (.cells #[.int .i64 0, .int .i64 0, .int .i64 0] 40) (by kernel_rfl) (by kernel_rfl) rfl (fun _ _ x _ _ h => by cases x <;> exact h) (fun _ _ => by kernel_rfl) ?_
      apply Exists.intro
      refine ⟨fun x0 => ?_, fun x1 x2 => ?_⟩
      · simp only [List.take_succ_cons, List.take_zero]
        (repeat (go_big_quiet_step (fail)))
        exact wpQuiet_nil rfl
      simp only [List.drop_succ_cons, List.drop_zero]
      by_cases np : k % 2 = 1
      · have ie : (k : Int) % 2 = 1 := by omega
        go_wp2_with (at_builtin; (refine wpList_append_lay (T := w) rfl _ _ rfl kinT fV_c fV_1 rfl (by with_reducible repeat (first | exact ex_refl _ | exact ex_moreM | apply ex_alloc | apply ex_plus | apply ex_drew | apply ex_drewN)) (hown.ex (by with_reducible repeat (first | exact ex_refl _ | exact ex_moreM | apply ex_alloc | apply ex_plus | apply ex_drew | apply ex_drewN))) rfl (l2 := [stripT ix k]) ⟨rfl, .inr ⟨_, 0, rfl, by simp [go_sem]; try omega, fun jj u hu => by match jj, hu with | 0, hu => (simp [fV, stripT, np] at hu; subst hu; simp [go_sem, ↓IntWalk.iteOmega]) | 1, hu => (simp [fV, stripT, np] at hu; subst hu; simp [go_sem, ↓IntWalk.iteOmega]) | 2, hu => (simp [fV, stripT, np] at hu; subst hu; simp [go_sem, ↓IntWalk.iteOmega]) | jj + 3, hu => simp [fV] at hu⟩⟩ (by omega) (by decide) ?_; intro ao' cap' y' hown'))
        go_roundw
        case rel => exact ⟨k + 1, ao', cap', by omega, by go_num, rfl, ⟨y', rfl⟩, by rw [← firsts_succ]; exact hown'⟩
        case measure => simp [intOf]; omega
      have ie : ¬ (k : Int) % 2 = 1 := by omega
      go_wp2_with (at_builtin; (refine wpList_append_lay (T := w) rfl _ _ rfl kinT fV_c fV_1 rfl (by with_reducible repeat (first | exact ex_refl _ | exact ex_moreM | apply ex_alloc | apply ex_plus | apply ex_drew | apply ex_drewN)) (hown.ex (by with_reducible repeat (first | exact ex_refl _ | exact ex_moreM | apply ex_alloc | apply ex_plus | apply ex_drew | apply ex_drewN))) rfl (l2 := [stripT ix k]) ⟨rfl, .inr ⟨_, 0, rfl, by simp [go_sem]; try omega, fun jj u hu => by match jj, hu with | 0, hu => (simp [fV, stripT, np] at hu; subst hu; simp [go_sem, ↓IntWalk.iteOmega]) | 1, hu => (simp [fV, stripT, np] at hu; subst hu; simp [go_sem, ↓IntWalk.iteOmega]) | 2, hu => (simp [fV, stripT, np] at hu; subst hu; simp [go_sem, ↓IntWalk.iteOmega]) | jj + 3, hu => simp [fV] at hu⟩⟩ (by omega) (by decide) ?_; intro ao' cap' y' hown'))
      go_roundw
      case rel => exact ⟨k + 1, ao', cap', by omega, by go_num, by rfl, ⟨y', rfl⟩, by rw [← firsts_succ]; exact hown'⟩
      case measure => simp [intOf]; omega
    · have ik : ¬ (k : Int) + 2 < (n : Int) := by omega
      obtain rfl : k = n - 2 := by omega
      go_wp2
      go_ret
      exact ⟨ao', cap', rfl, ⟨y, rfl⟩, hown⟩

end

end Go.Proofs.YtcekcihijdipoaaGreat
