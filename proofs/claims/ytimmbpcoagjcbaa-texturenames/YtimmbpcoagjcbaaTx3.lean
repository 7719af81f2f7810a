/- What Texel and At give. -/
import Derived.Test.YtimmbpcoagjcbaaTx2
import Derived.Test.YtimmbpcoagjcbaaTxEq
namespace Go.Proofs.Ytimmbpcoagjcbaa
open Go.RowKit Go.ChangeShapes Go.WideShapes Go.ChangeAt
set_option linter.unusedSimpArgs false
set_option linter.unusedVariables false
attribute [local go_sem] plus_size plus_drew dn_set dn_alloc dn_plus plus_dn cell_plus frozen_plus set_plus cell_alloc frozen_alloc set_alloc

theorem at_no {W H u v : Int} {n : Nat} {l : List Cl} (h : mayT W H n = false) : atT W H n l u v = (cl0, 8) := by rw [atT, if_neg (by rw [h]; decide)]
theorem at_arg {W H u v : Int} {n : Nat} {l : List Cl} (h : mayT W H n = true) (h2 : (plc u && plc v) = false) : atT W H n l u v = (cl0, 2) := by rw [atT, if_pos h, if_neg (by rw [h2]; decide)]
theorem at_good {W H u v : Int} {n : Nat} {l : List Cl} (h : mayT W H n = true) (hu : plc u = true) (hv : plc v = true) : atT W H n l u v = (nth cl0 l (spot W H u v).toNat, 0) := by rw [atT, if_pos h, if_pos (by rw [hu, hv]; rfl)]
theorem err_no' {W H : Int} {n : Nat} (h : mayT W H n = false) : errT W H n = 8 := by rw [errT, if_neg]; rw [h]; decide
theorem err_ok' {W H : Int} {n : Nat} (h : mayT W H n = true) : errT W H n = 0 := by rw [errT, if_pos]; exact h
/-- the texel's number, step by step -/
theorem spot_is {W H u v : Int} {n : Nat} (hm : mayT W H n = true) (hu : plc u = true) (hv : plc v = true) : ∃ (p q : Int) (r s c k : Nat), v * H = p ∧ u * W = q ∧ (0 ≤ p ∧ p ≤ 4080) ∧ (0 ≤ q ∧ q ≤ 4080) ∧ p / 256 = (r : Int) ∧ q / 256 = (c : Int) ∧ (r : Int) * W = (s : Int) ∧ s ≤ 256 ∧ c ≤ 16 ∧ r ≤ 16 ∧ s + c = k ∧ (spot W H u v).toNat = k ∧ k < n := by
  obtain ⟨hw, hh, hn⟩ := mayT_iff.1 hm
  obtain ⟨u0, u1⟩ := plc_iff.1 hu
  obtain ⟨v0, v1⟩ := plc_iff.1 hv
  obtain ⟨p0, p1, p2, p3⟩ := col_lt hh ⟨v0, v1⟩
  obtain ⟨q0, q1, q2, q3⟩ := col_lt hw ⟨u0, u1⟩
  obtain ⟨⟨s0, s1⟩, s2, s3⟩ := spot_lt hw hh ⟨u0, u1⟩ ⟨v0, v1⟩
  have hr : v * H / 256 = (((v * H / 256).toNat : Nat) : Int) := by omega
  refine ⟨v * H, u * W, (v * H / 256).toNat, (v * H / 256 * W).toNat, (u * W / 256).toNat, _, rfl, rfl, ⟨p0, p1⟩, ⟨q0, q1⟩, hr, by omega, by rw [← hr]; omega, by omega, by omega, by omega, rfl, ?_, ?_⟩
  · unfold spot at *
    omega
  · unfold spot at *
    omega

set_option maxHeartbeats 2000000 in
theorem rtexel_calls (W H u v : Int) (ao : Option Addr) (n cap : Nat) (l : List Cl) (w : World) (hl : Lay fCl w ao n l) (hn : n ≤ 9223372036854775807) (hm : mayT W H n = true) (hu : plc u = true) (hv : plc v = true) :
    Calls Try.prog 22 #[.agg #[.int .i64 W, .int .i64 H, .slice ao n cap], .int .i64 u, .int .i64 v] w fun e w' => e = .returned (.agg #[.int .u8 (nth cl0 l (spot W H u v).toNat).r, .int .u8 (nth cl0 l (spot W H u v).toNat).g, .int .u8 (nth cl0 l (spot W H u v).toNat).b, .int .u8 (nth cl0 l (spot W H u v).toNat).a]) ∧ ∃ y, w' = plus w y := by
  have hlen := hl.len
  obtain ⟨p, q, r, s, c, k, hp, hq, hp2, hq2, hr, hc, hs, hs2, hc2, hr2, hk, hk2, hk3⟩ := spot_is hm hu hv
  rw [hk2]
  obtain ⟨g, off, rfl, hg, hcell⟩ := hl.some (by omega)
  obtain ⟨c0, c1, c2, c3⟩ := cellCl hlen hcell hk3
  subst hk
  clear hm hu hv hk2 hl hcell
  go_enter Try.func22, Try.ntmps22
  go_wp2
  exact bodyPost_ret (v := .agg #[.int .u8 (nth cl0 l (s + c)).r, .int .u8 (nth cl0 l (s + c)).g, .int .u8 (nth cl0 l (s + c)).b, .int .u8 (nth cl0 l (s + c)).a]) (by simp [results, Try.results22, go_sem, ↓IntWalk.iteOmega]; try first | rfl | exact ⟨rfl, rfl, rfl, rfl⟩) rfl ⟨rfl, (by with_reducible repeat (first | exact ex_refl _ | exact ex_more9 | apply ex_alloc | apply ex_plus | apply ex_drew | apply ex_drewN))⟩

theorem rtexel_is {W H u v : Int} {ao : Option Addr} {n cap : Nat} {l : List Cl} {w : World} (hl : Lay fCl w ao n l) (hn : n ≤ 9223372036854775807) (hm : mayT W H n = true) (hu : plc u = true) (hv : plc v = true) {k : Nat} (hk : (spot W H u v).toNat = k) :
    Calls Try.prog 22 #[.agg #[.int .i64 W, .int .i64 H, .slice ao n cap], .int .i64 u, .int .i64 v] w fun e w' => e = .returned (.agg #[.int .u8 (nth cl0 l k).r, .int .u8 (nth cl0 l k).g, .int .u8 (nth cl0 l k).b, .int .u8 (nth cl0 l k).a]) ∧ ∃ y, w' = plus w y := by
  subst hk
  exact rtexel_calls W H u v ao n cap l w hl hn hm hu hv

set_option maxHeartbeats 2000000 in
theorem tat_calls (W H u v : Int) (ao : Option Addr) (n cap : Nat) (l : List Cl) (w : World) (hl : Lay fCl w ao n l) (hn : n ≤ 9223372036854775807) :
    Calls Try.prog 7 #[.agg #[.int .i64 W, .int .i64 H, .slice ao n cap], .int .i64 u, .int .i64 v] w fun e w' => e = .returned (.tuple #[.agg #[.int .u8 (atT W H n l u v).1.r, .int .u8 (atT W H n l u v).1.g, .int .u8 (atT W H n l u v).1.b, .int .u8 (atT W H n l u v).1.a], .int .i64 (atT W H n l u v).2]) ∧ ∃ y, w' = plus w y := by
  have hlen := hl.len
  cases hm : mayT W H n
  · rw [at_no hm]
    have he := err_no' hm
    go_enter Try.func7, Try.ntmps7
    go_wp2_with (go_at_call 10; refine (tcheck_is he).mono ?_; rintro e w' ⟨rfl, nx, rfl⟩)
    exact bodyPost_ret (v := .tuple #[.agg #[.int .u8 cl0.r, .int .u8 cl0.g, .int .u8 cl0.b, .int .u8 cl0.a], .int .i64 8]) (by simp [results, Try.results7, go_sem, ↓IntWalk.iteOmega]; try first | rfl | exact ⟨rfl, rfl, rfl, rfl⟩) rfl ⟨rfl, (by with_reducible repeat (first | exact ex_refl _ | exact ex_more9 | apply ex_alloc | apply ex_plus | apply ex_drew | apply ex_drewN))⟩
  have he := err_ok' hm
  cases hu : plc u
  · rw [at_arg hm (by rw [hu]; rfl)]
    go_enter Try.func7, Try.ntmps7
    go_wp2_with (first | (go_at_call 10; refine (tcheck_is he).mono ?_; rintro e w' ⟨rfl, nx, rfl⟩) | (go_at_call 20; refine (tplace_is (by first | exact hu | exact hv)).mono ?_; rintro e w' ⟨rfl, ew⟩; obtain rfl := ew.symm))
    exact bodyPost_ret (v := .tuple #[.agg #[.int .u8 cl0.r, .int .u8 cl0.g, .int .u8 cl0.b, .int .u8 cl0.a], .int .i64 2]) (by simp [results, Try.results7, go_sem, ↓IntWalk.iteOmega]; try first | rfl | exact ⟨rfl, rfl, rfl, rfl⟩) rfl ⟨rfl, (by with_reducible repeat (first | exact ex_refl _ | exact ex_more9 | apply ex_alloc | apply ex_plus | apply ex_drew | apply ex_drewN))⟩
  cases hv : plc v
  · rw [at_arg hm (by rw [hu, hv]; rfl)]
    go_enter Try.func7, Try.ntmps7
    go_wp2_with (first | (go_at_call 10; refine (tcheck_is he).mono ?_; rintro e w' ⟨rfl, nx, rfl⟩) | (go_at_call 20; refine (tplace_is (by first | exact hu | exact hv)).mono ?_; rintro e w' ⟨rfl, ew⟩; obtain rfl := ew.symm))
    exact bodyPost_ret (v := .tuple #[.agg #[.int .u8 cl0.r, .int .u8 cl0.g, .int .u8 cl0.b, .int .u8 cl0.a], .int .i64 2]) (by simp [results, Try.results7, go_sem, ↓IntWalk.iteOmega]; try first | rfl | exact ⟨rfl, rfl, rfl, rfl⟩) rfl ⟨rfl, (by with_reducible repeat (first | exact ex_refl _ | exact ex_more9 | apply ex_alloc | apply ex_plus | apply ex_drew | apply ex_drewN))⟩
  rw [at_good hm hu hv]
  obtain ⟨p, q, r, s, c, k, hp, hq, hp2, hq2, hr, hc, hs, hs2, hc2, hr2, hk, hk2, hk3⟩ := spot_is hm hu hv
  rw [hk2]
  obtain ⟨g, off, rfl, hg, hcell⟩ := hl.some (by omega)
  obtain ⟨c0, c1, c2, c3⟩ := cellCl hlen hcell hk3
  subst hk
  clear hm hk2 hl hcell
  go_enter Try.func7, Try.ntmps7
  go_wp2_with (first | (go_at_call 10; refine (tcheck_is he).mono ?_; rintro e w' ⟨rfl, nx, rfl⟩) | (go_at_call 20; refine (tplace_is (by first | exact hu | exact hv)).mono ?_; rintro e w' ⟨rfl, ew⟩; obtain rfl := ew.symm))
  exact bodyPost_ret (v := .tuple #[.agg #[.int .u8 (nth cl0 l (s + c)).r, .int .u8 (nth cl0 l (s + c)).g, .int .u8 (nth cl0 l (s + c)).b, .int .u8 (nth cl0 l (s + c)).a], .int .i64 0]) (by simp [results, Try.results7, go_sem, ↓IntWalk.iteOmega]; try first | rfl | exact ⟨rfl, rfl, rfl, rfl⟩) rfl ⟨rfl, (by with_reducible repeat (first | exact ex_refl _ | exact ex_more9 | apply ex_alloc | apply ex_plus | apply ex_drew | apply ex_drewN))⟩

theorem tat_is {W H u v : Int} {ao : Option Addr} {n cap : Nat} {l : List Cl} {w : World} (hl : Lay fCl w ao n l) (hn : n ≤ 9223372036854775807) {p : Cl × Int} (h : atT W H n l u v = p) :
    Calls Try.prog 7 #[.agg #[.int .i64 W, .int .i64 H, .slice ao n cap], .int .i64 u, .int .i64 v] w fun e w' => e = .returned (.tuple #[.agg #[.int .u8 p.1.r, .int .u8 p.1.g, .int .u8 p.1.b, .int .u8 p.1.a], .int .i64 p.2]) ∧ ∃ y, w' = plus w y := h ▸ tat_calls W H u v ao n cap l w hl hn

set_option maxHeartbeats 2000000 in
theorem rat_calls (W H u v : Int) (ao : Option Addr) (n cap : Nat) (l : List Cl) (w : World) (hl : Lay fCl w ao n l) (hn : n ≤ 9223372036854775807) :
    Calls Try.prog 14 #[.agg #[.int .i64 W, .int .i64 H, .slice ao n cap], .int .i64 u, .int .i64 v] w fun e w' => e = .returned (.tuple #[.agg #[.int .u8 (atT W H n l u v).1.r, .int .u8 (atT W H n l u v).1.g, .int .u8 (atT W H n l u v).1.b, .int .u8 (atT W H n l u v).1.a], .int .i64 (atT W H n l u v).2]) ∧ ∃ y, w' = plus w y := by
  cases hm : mayT W H n
  · rw [at_no hm]
    go_enter Try.func14, Try.ntmps14
    go_wp2_with (go_at_call 18; refine (rmay9_is hm).mono ?_; rintro e w' ⟨rfl, nx, rfl⟩)
    exact bodyPost_ret (v := .tuple #[.agg #[.int .u8 cl0.r, .int .u8 cl0.g, .int .u8 cl0.b, .int .u8 cl0.a], .int .i64 8]) (by simp [results, Try.results14, go_sem, ↓IntWalk.iteOmega]; try first | rfl | exact ⟨rfl, rfl, rfl, rfl⟩) rfl ⟨rfl, (by with_reducible repeat (first | exact ex_refl _ | exact ex_more9 | apply ex_alloc | apply ex_plus | apply ex_drew | apply ex_drewN))⟩
  by_cases u0 : u < 0
  · rw [at_arg hm (by simp [plc]; omega)]
    go_enter Try.func14, Try.ntmps14
    go_wp2_with (go_at_call 18; refine (rmay9_is hm).mono ?_; rintro e w' ⟨rfl, nx, rfl⟩)
    exact bodyPost_ret (v := .tuple #[.agg #[.int .u8 cl0.r, .int .u8 cl0.g, .int .u8 cl0.b, .int .u8 cl0.a], .int .i64 2]) (by simp [results, Try.results14, go_sem, ↓IntWalk.iteOmega]; try first | rfl | exact ⟨rfl, rfl, rfl, rfl⟩) rfl ⟨rfl, (by with_reducible repeat (first | exact ex_refl _ | exact ex_more9 | apply ex_alloc | apply ex_plus | apply ex_drew | apply ex_drewN))⟩
  by_cases u1 : 255 < u
  · rw [at_arg hm (by simp [plc]; omega)]
    go_enter Try.func14, Try.ntmps14
    go_wp2_with (go_at_call 18; refine (rmay9_is hm).mono ?_; rintro e w' ⟨rfl, nx, rfl⟩)
    exact bodyPost_ret (v := .tuple #[.agg #[.int .u8 cl0.r, .int .u8 cl0.g, .int .u8 cl0.b, .int .u8 cl0.a], .int .i64 2]) (by simp [results, Try.results14, go_sem, ↓IntWalk.iteOmega]; try first | rfl | exact ⟨rfl, rfl, rfl, rfl⟩) rfl ⟨rfl, (by with_reducible repeat (first | exact ex_refl _ | exact ex_more9 | apply ex_alloc | apply ex_plus | apply ex_drew | apply ex_drewN))⟩
  by_cases v0 : v < 0
  · rw [at_arg hm (by simp [plc]; omega)]
    go_enter Try.func14, Try.ntmps14
    go_wp2_with (go_at_call 18; refine (rmay9_is hm).mono ?_; rintro e w' ⟨rfl, nx, rfl⟩)
    exact bodyPost_ret (v := .tuple #[.agg #[.int .u8 cl0.r, .int .u8 cl0.g, .int .u8 cl0.b, .int .u8 cl0.a], .int .i64 2]) (by simp [results, Try.results14, go_sem, ↓IntWalk.iteOmega]; try first | rfl | exact ⟨rfl, rfl, rfl, rfl⟩) rfl ⟨rfl, (by with_reducible repeat (first | exact ex_refl _ | exact ex_more9 | apply ex_alloc | apply ex_plus | apply ex_drew | apply ex_drewN))⟩
  by_cases v1 : 255 < v
  · rw [at_arg hm (by simp [plc]; omega)]
    go_enter Try.func14, Try.ntmps14
    go_wp2_with (go_at_call 18; refine (rmay9_is hm).mono ?_; rintro e w' ⟨rfl, nx, rfl⟩)
    exact bodyPost_ret (v := .tuple #[.agg #[.int .u8 cl0.r, .int .u8 cl0.g, .int .u8 cl0.b, .int .u8 cl0.a], .int .i64 2]) (by simp [results, Try.results14, go_sem, ↓IntWalk.iteOmega]; try first | rfl | exact ⟨rfl, rfl, rfl, rfl⟩) rfl ⟨rfl, (by with_reducible repeat (first | exact ex_refl _ | exact ex_more9 | apply ex_alloc | apply ex_plus | apply ex_drew | apply ex_drewN))⟩
  have hu : plc u = true := plc_iff.2 (by omega)
  have hv : plc v = true := plc_iff.2 (by omega)
  rw [at_good hm hu hv]
  obtain ⟨k, hk⟩ : ∃ k, (spot W H u v).toNat = k := ⟨_, rfl⟩
  rw [hk]
  go_enter Try.func14, Try.ntmps14
  go_wp2_with (first | (go_at_call 18; refine (rmay9_is hm).mono ?_; rintro e w' ⟨rfl, nx, rfl⟩) | (go_at_call 22; refine (rtexel_is (hl.ex (by with_reducible repeat (first | exact ex_refl _ | exact ex_more9 | apply ex_alloc | apply ex_plus | apply ex_drew | apply ex_drewN))) hn hm hu hv hk).mono ?_; rintro e w' ⟨rfl, nx, rfl⟩))
  exact bodyPost_ret (v := .tuple #[.agg #[.int .u8 (nth cl0 l k).r, .int .u8 (nth cl0 l k).g, .int .u8 (nth cl0 l k).b, .int .u8 (nth cl0 l k).a], .int .i64 0]) (by simp [results, Try.results14, go_sem, ↓IntWalk.iteOmega]; try first | rfl | exact ⟨rfl, rfl, rfl, rfl⟩) rfl ⟨rfl, (by with_reducible repeat (first | exact ex_refl _ | exact ex_more9 | apply ex_alloc | apply ex_plus | apply ex_drew | apply ex_drewN))⟩

theorem rat_is {W H u v : Int} {ao : Option Addr} {n cap : Nat} {l : List Cl} {w : World} (hl : Lay fCl w ao n l) (hn : n ≤ 9223372036854775807) {p : Cl × Int} (h : atT W H n l u v = p) :
    Calls Try.prog 14 #[.agg #[.int .i64 W, .int .i64 H, .slice ao n cap], .int .i64 u, .int .i64 v] w fun e w' => e = .returned (.tuple #[.agg #[.int .u8 p.1.r, .int .u8 p.1.g, .int .u8 p.1.b, .int .u8 p.1.a], .int .i64 p.2]) ∧ ∃ y, w' = plus w y := h ▸ rat_calls W H u v ao n cap l w hl hn

end Go.Proofs.Ytimmbpcoagjcbaa
