/- NodesBoth is proved: a node is a parent of another one just as often as that is a child of it, and whoever reaches another one is it, or has a child that does: the call returns true for any graph and handles. No condition. -/
import Derived.Test.YtmmflpjfgapaaaaNodesA
import Derived.Test.YtmmflpjfgapaaaaLaw
namespace Go.Proofs.Ytmmflpjfgapaaaa
open Go.RowKit Go.ChangeShapes Go.WideShapes Go.ChangeAt
set_option linter.unusedSimpArgs false
set_option linter.unusedVariables false
attribute [local go_sem] plus_size plus_drew dn_set dn_alloc dn_plus plus_dn cell_plus frozen_plus set_plus cell_alloc frozen_alloc set_alloc

theorem count_is {ao : Option Addr} {n cap : Nat} {l : List (Int × Int)} {s g : Int} {w : World} {m : Nat} (hc : countH l (s, g) = m) (hl : Lay f2 w ao n l) (hn : n ≤ 100000) :
    Calls Try.prog 35 #[.slice ao n cap, .agg #[.int .i64 s, .int .i64 g]] w fun e w' => e = .returned (.int .i64 (m : Int)) ∧ Below w.heap.size w w' := by
  subst hc
  exact count_calls ao n cap l s g w hl hn
theorem both_ask {gr : Gr} {h i : Int × Int} (h1 : askErr gr h h = 0) (h2 : askErr gr i i = 0) : askErr gr h i = 0 := by
  obtain ⟨hg, hh, _⟩ := ask_ok h1
  obtain ⟨_, hi, _⟩ := ask_ok h2
  rw [askErr, if_pos hg, if_pos ⟨hh, hi⟩]
def overV (gr : Gr) (h i : Int × Int) (k : Nat) : Bool := decide (h = i) || ((rowAt gr h).take k).any fun x => reachB gr x i
theorem overV_succ {gr : Gr} {h i : Int × Int} {k : Nat} (hk : k < (rowAt gr h).length) : overV gr h i (k + 1) = (overV gr h i k || reachB gr (nth (0, 0) (rowAt gr h) k) i) := by
  rw [overV, take_nth (d := ((0, 0) : Int × Int)) hk, List.any_append, overV, Bool.or_assoc]
  simp

theorem eqlH (s g i1 i2 : Int) (w : World) : (binOp .eql 29 (.agg #[.int .i64 s, .int .i64 g]) (.agg #[.int .i64 i1, .int .i64 i2])).run Try.prog w = .ok (.bool (decide ((s, g) = (i1, i2)))) w := by
  have h := equalH_run (s, g) (i1, i2) w
  simp only [hv] at h
  simp only [binOp]
  simp [h]

set_option maxRecDepth 100000 in
set_option maxHeartbeats 8000000 in
theorem nodesBoth_walk (ao : Option Addr) (n cap : Nat) (ko : Option Addr) (kn kcap : Nat) (hs : List RH) (gr : Gr) (s g i1 i2 : Int) (w : World) (hG : GrIn w ao n ko kn hs gr) :
    Calls Try.prog 8 #[.agg #[.slice ao n cap, .slice ko kn kcap], .agg #[.int .i64 s, .int .i64 g], .agg #[.int .i64 i1, .int .i64 i2]] w fun e w' => e = .returned (.bool true) ∧ Below w.heap.size w w' := by
  cases hg1 : greatB n kn hs
  rotate_left
  · go_enter Try.func8, Try.ntmps8
    go_wp2_with (first | (go_at_call 14; refine (plus_post (galive_calls _)).mono ?_; rintro e w' ⟨rfl, na, rfl⟩) | (go_at_call 16; refine (plus_post (great_any (hG.ex (by with_reducible repeat (first | exact ex_refl _ | exact ex_more | apply ex_alloc | apply ex_plus | apply ex_drew | apply ex_drewN))))).mono ?_; rintro e w' ⟨rfl, nb, rfl⟩; rw [hg1]))
    go_ret
    exact ⟨rfl, by with_reducible repeat (first | exact Below.refl _ _ | apply ba | apply bp | apply bd | apply bn)⟩
  have hA := hG.few hg1
  have fA := great_few hG hg1
  have hlen := hA.kl
  have m2 := hA.n2
  have hsl := hA.sl.len
  by_cases he : askErr gr (s, g) (s, g) = 0
  rotate_left
  · have dE : (askErr gr (s, g) (s, g) == 0) = false := by rw [beq_eq_false_iff_ne]; exact he
    go_enter Try.func8, Try.ntmps8
    go_wp2_with (first | (go_at_call 14; refine (plus_post (galive_calls _)).mono ?_; rintro e w' ⟨rfl, na, rfl⟩) | (go_at_call 16; refine (plus_post (great_any (hG.ex (by with_reducible repeat (first | exact ex_refl _ | exact ex_more | apply ex_alloc | apply ex_plus | apply ex_drew | apply ex_drewN))))).mono ?_; rintro e w' ⟨rfl, nb, rfl⟩; rw [hg1]) | (go_at_call 11; refine (nkids_is rfl rfl (hA.ex (by with_reducible repeat (first | exact ex_refl _ | exact ex_more | apply ex_alloc | apply ex_plus | apply ex_drew | apply ex_drewN | (apply ex_on; assumption))))).mono ?_; rintro e w' ⟨Ka, Kn, Kc, rfl, ⟨y2, rfl⟩, oK⟩) | (go_at_call 29; refine (nparents_is rfl rfl (hA.ex (by with_reducible repeat (first | exact ex_refl _ | exact ex_more | apply ex_alloc | apply ex_plus | apply ex_drew | apply ex_drewN | (apply ex_on; assumption))))).mono ?_; rintro e w' ⟨Pa, Pn, Pc, rfl, ⟨y3, rfl⟩, oP⟩) | (go_at_call 31; refine (plus_post (nreaches_is rfl rfl (hA.ex (by with_reducible repeat (first | exact ex_refl _ | exact ex_more | apply ex_alloc | apply ex_plus | apply ex_drew | apply ex_drewN | (apply ex_on; assumption)))))).mono ?_; rintro e w' ⟨rfl, ny, rfl⟩))
    go_ret
    exact ⟨rfl, below_ex (by with_reducible repeat (first | exact ex_refl _ | exact ex_more | apply ex_alloc | apply ex_plus | apply ex_drew | apply ex_drewN | (apply ex_on; assumption)))⟩
  by_cases hf : askErr gr (i1, i2) (i1, i2) = 0
  rotate_left
  · have dF : (askErr gr (i1, i2) (i1, i2) == 0) = false := by rw [beq_eq_false_iff_ne]; exact hf
    go_enter Try.func8, Try.ntmps8
    go_wp2_with (first | (go_at_call 14; refine (plus_post (galive_calls _)).mono ?_; rintro e w' ⟨rfl, na, rfl⟩) | (go_at_call 16; refine (plus_post (great_any (hG.ex (by with_reducible repeat (first | exact ex_refl _ | exact ex_more | apply ex_alloc | apply ex_plus | apply ex_drew | apply ex_drewN))))).mono ?_; rintro e w' ⟨rfl, nb, rfl⟩; rw [hg1]) | (go_at_call 11; refine (nkids_is rfl he (hA.ex (by with_reducible repeat (first | exact ex_refl _ | exact ex_more | apply ex_alloc | apply ex_plus | apply ex_drew | apply ex_drewN | (apply ex_on; assumption))))).mono ?_; rintro e w' ⟨Ka, Kn, Kc, rfl, ⟨y2, rfl⟩, oK⟩) | (go_at_call 29; refine (nparents_is rfl rfl (hA.ex (by with_reducible repeat (first | exact ex_refl _ | exact ex_more | apply ex_alloc | apply ex_plus | apply ex_drew | apply ex_drewN | (apply ex_on; assumption))))).mono ?_; rintro e w' ⟨Pa, Pn, Pc, rfl, ⟨y3, rfl⟩, oP⟩) | (go_at_call 31; refine (plus_post (nreaches_is rfl rfl (hA.ex (by with_reducible repeat (first | exact ex_refl _ | exact ex_more | apply ex_alloc | apply ex_plus | apply ex_drew | apply ex_drewN | (apply ex_on; assumption)))))).mono ?_; rintro e w' ⟨rfl, ny, rfl⟩))
    go_ret
    exact ⟨rfl, below_ex (by with_reducible repeat (first | exact ex_refl _ | exact ex_more | apply ex_alloc | apply ex_plus | apply ex_drew | apply ex_drewN | (apply ex_on; assumption)))⟩
  have hj := both_ask he hf
  obtain ⟨hok, hh, _⟩ := ask_ok he
  obtain ⟨_, hi, _⟩ := ask_ok hf
  obtain ⟨_, h2, h3, _⟩ := gr_parts hok
  have hl := held_lt hh
  simp only at hl
  have hR : kidsL gr (s, g) = rowAt gr (s, g) := by rw [kidsL, if_pos he]
  have hP : parentsL gr (i1, i2) = parentsTo gr (i1, i2) gr.ks.length := by rw [parentsL, if_pos hf]
  have hU : reachR gr (s, g) (i1, i2) = reachB gr (s, g) (i1, i2) := by rw [reachR, if_pos hj]
  have hov := reach_over hok hh hi
  have hcp := count_parents (g := gr) (h := (s, g)) (i := (i1, i2)) hh gr.ks.length
  rw [if_pos (by show s.toNat < _; omega)] at hcp
  obtain ⟨m, hm⟩ : ∃ m, countH (rowAt gr (s, g)) (i1, i2) = m := ⟨_, rfl⟩
  rw [hm] at hcp
  obtain ⟨u, hu⟩ : ∃ u, reachB gr (s, g) (i1, i2) = u := ⟨_, rfl⟩
  rw [hu] at hU hov
  have hpl := parentsTo_le (h := (i1, i2)) h3 gr.ks.length (Nat.le_refl _)
  have hrl : (rowAt gr (s, g)).length ≤ 16 := (rows_at h3 (i := s.toNat) (by omega)).1
  have hrh : ∀ x, x ∈ rowAt gr (s, g) → heldIn gr.sl x.1 x.2 = true := (rows_at h3 (i := s.toNat) (by omega)).2.2
  go_enter Try.func8, Try.ntmps8
  go_upto_region 9 with (first | (go_at_call 14; refine (plus_post (galive_calls _)).mono ?_; rintro e w' ⟨rfl, na, rfl⟩) | (go_at_call 16; refine (plus_post (great_any (hG.ex (by with_reducible repeat (first | exact ex_refl _ | exact ex_more | apply ex_alloc | apply ex_plus | apply ex_drew | apply ex_drewN))))).mono ?_; rintro e w' ⟨rfl, nb, rfl⟩; rw [hg1]) | (go_at_call 11; refine (nkids_is hR he (hA.ex (by with_reducible repeat (first | exact ex_refl _ | exact ex_more | apply ex_alloc | apply ex_plus | apply ex_drew | apply ex_drewN | (apply ex_on; assumption))))).mono ?_; rintro e w' ⟨Ka, Kn, Kc, rfl, ⟨y2, rfl⟩, oK⟩) | (go_at_call 29; refine (nparents_is hP hf (hA.ex (by with_reducible repeat (first | exact ex_refl _ | exact ex_more | apply ex_alloc | apply ex_plus | apply ex_drew | apply ex_drewN | (apply ex_on; assumption))))).mono ?_; rintro e w' ⟨Pa, Pn, Pc, rfl, ⟨y3, rfl⟩, oP⟩) | (go_at_call 31; refine (plus_post (nreaches_is hU hj (hA.ex (by with_reducible repeat (first | exact ex_refl _ | exact ex_more | apply ex_alloc | apply ex_plus | apply ex_drew | apply ex_drewN | (apply ex_on; assumption)))))).mono ?_; rintro e w' ⟨rfl, ny, rfl⟩))
  refine name_world (fun v5 => (∃ y, v5 = plus w y) ∧ v5.heap[w.heap.size]? = some (.cells #[.slice ao n cap, .slice ko kn kcap] 27) ∧ v5.heap[w.heap.size + 1]? = some (.cells #[.int .i64 s, .int .i64 g] 29) ∧ v5.heap[w.heap.size + 1 + 1]? = some (.cells #[.int .i64 i1, .int .i64 i2] 29) ∧ Lay f2 v5 Ka Kn (rowAt gr (s, g)) ∧ Lay f2 v5 Pa Pn (parentsTo gr (i1, i2) gr.ks.length)) ⟨(by with_reducible repeat (first | exact ex_refl _ | exact ex_more | apply ex_alloc | apply ex_plus | apply ex_drew | apply ex_drewN | (apply ex_on; assumption))), blk_ex (w := ((w.alloc (.cells #[.slice ao n cap, .slice ko kn kcap] 27)).alloc (.cells #[.int .i64 s, .int .i64 g] 29)).alloc (.cells #[.int .i64 i1, .int .i64 i2] 29)) (by with_reducible repeat (first | exact ex_refl _ | exact ex_more | apply ex_alloc | apply ex_plus | apply ex_drew | apply ex_drewN)) (by simp only [blk_alloc]; simp [go_sem, ↓IntWalk.iteOmega]), blk_ex (w := ((w.alloc (.cells #[.slice ao n cap, .slice ko kn kcap] 27)).alloc (.cells #[.int .i64 s, .int .i64 g] 29)).alloc (.cells #[.int .i64 i1, .int .i64 i2] 29)) (by with_reducible repeat (first | exact ex_refl _ | exact ex_more | apply ex_alloc | apply ex_plus | apply ex_drew | apply ex_drewN)) (by simp only [blk_alloc]; simp [go_sem, ↓IntWalk.iteOmega]), blk_ex (w := ((w.alloc (.cells #[.slice ao n cap, .slice ko kn kcap] 27)).alloc (.cells #[.int .i64 s, .int .i64 g] 29)).alloc (.cells #[.int .i64 i1, .int .i64 i2] 29)) (by with_reducible repeat (first | exact ex_refl _ | exact ex_more | apply ex_alloc | apply ex_plus | apply ex_drew | apply ex_drewN)) (by simp only [blk_alloc]; simp [go_sem, ↓IntWalk.iteOmega]), oK.lay.ex (by with_reducible repeat (first | exact ex_refl _ | exact ex_more | apply ex_alloc | apply ex_plus | apply ex_drew | apply ex_drewN)), oP.lay.ex (by with_reducible repeat (first | exact ex_refl _ | exact ex_more | apply ex_alloc | apply ex_plus | apply ex_drew | apply ex_drewN))⟩ ?_
  clear oK oP
  rintro v5 ⟨hv5, b0, b1, b2, hLK, hLP⟩
  have hA5 := hA.ex hv5
  have hKn := hLK.len
  have hPn := hLP.len
  have x0 := cell_blk (i := 0) b0 rfl
  have x1 := cell_blk (i := 1) b0 rfl
  have x2 := cell_blk (i := 0) b1 rfl
  have x3 := cell_blk (i := 1) b1 rfl
  have x4 := cell_blk (i := 0) b2 rfl
  have x5 := cell_blk (i := 1) b2 rfl
  have n0 := blk_lt b0
  have n1 := blk_lt b1
  have n2 := blk_lt b2
  have heq := eqlH s g i1 i2
  generalize hb0 : decide ((s, g) = (i1, i2)) = b0 at heq
  go_wp2
  go_loopw [14, 15] (fun o_ k_ wr => ∃ (k : Nat) (b : Bool), k ≤ Kn ∧ o_ = .bool b ∧ k_ = .int .i64 k ∧ b = overV gr (s, g) (i1, i2) k ∧ ∃ x, wr = plus v5 x) (fun _ k_ _ => Kn - (intOf k_).toNat)
  case atStart => exact ⟨0, b0, Nat.zero_le _, rfl, rfl, by rw [overV, hb0, List.take_zero, List.any_nil, Bool.or_false], (by with_reducible repeat (first | exact ex_refl _ | exact ex_more | apply ex_alloc | apply ex_plus | apply ex_drew | apply ex_drewN))⟩
  case round =>
    obtain ⟨k, b, hk, rfl, rfl, hb, x, rfl⟩ := hrel
    by_cases hkl : k < Kn
    rotate_left
    · have ik : ¬ (k : Int) < (Kn : Int) := by omega
      obtain rfl : k = Kn := by omega
      obtain rfl : u = b := by rw [hb, hov, overV, List.take_of_length_le (by omega)]
      obtain ⟨p, rfl⟩ : ∃ p : Nat, s = (p : Int) := ⟨s.toNat, by omega⟩
      rw [Int.toNat_natCast] at hl
      have hpk : p < kn := by omega
      have ip : (p : Int) < (kn : Int) := by omega
      obtain ⟨kg, kf, rfl, hkg, hkc⟩ := hA5.kh.some (by omega)
      have c1 := cellR hA5.kh.len hkc hpk
      have hrow := hA5.row p (by rw [hA5.kh.len]; exact hpk)
      have hn3 := hA5.n3 p (by rw [hA5.kh.len]; exact hpk)
      have hra : rowAt gr ((p : Int), g) = nth [] gr.ks p := by rw [rowAt]; simp
      have hsm : same2 (rowAt gr ((p : Int), g)) (nth [] gr.ks p) = true := by rw [hra]; exact same_refl eq2_refl _
      go_wp2
      refine region_plus (by kernel_rfl) (by kernel_rfl) ?_
      (repeat (go_big_quiet_step ((first | (go_at_call 35; first | exact plus_of (count_is hm (hLK.ex (by with_reducible repeat (first | exact ex_refl _ | exact ex_more | apply ex_alloc | apply ex_plus | apply ex_drew | apply ex_drewN))) (by omega)) | exact plus_of (count_is hcp (hLP.ex (by with_reducible repeat (first | exact ex_refl _ | exact ex_more | apply ex_alloc | apply ex_plus | apply ex_drew | apply ex_drewN))) (by omega))) | (go_at_call 33; exact plus_of (sameH_is hsm (hLK.ex (by with_reducible repeat (first | exact ex_refl _ | exact ex_more | apply ex_alloc | apply ex_plus | apply ex_drew | apply ex_drewN))) (hrow.ex (by with_reducible repeat (first | exact ex_refl _ | exact ex_more | apply ex_alloc | apply ex_plus | apply ex_drew | apply ex_drewN))) (by omega) (by omega)))))))
      refine wpQuiet_nil ?_
      rintro _ ⟨x2, rfl⟩
      go_wp2
      go_ret
      exact ⟨by first | rfl | simp, below_ex (by with_reducible repeat (first | exact ex_refl _ | exact ex_more | apply ex_alloc | apply ex_plus | apply ex_drew | apply ex_drewN | (apply ex_on; assumption)))⟩
    have ik : (k : Int) < (Kn : Int) := by omega
    have hx := hrh _ (nth_mem (d := (0, 0)) (k := k) (by omega))
    have hjx : askErr gr ((nth (0, 0) (rowAt gr (s, g)) k).1, (nth (0, 0) (rowAt gr (s, g)) k).2) (i1, i2) = 0 := by rw [askErr, if_pos hok, if_pos ⟨hx, hi⟩]
    obtain ⟨y, hy⟩ : ∃ y, reachR gr ((nth (0, 0) (rowAt gr (s, g)) k).1, (nth (0, 0) (rowAt gr (s, g)) k).2) (i1, i2) = y := ⟨_, rfl⟩
    have hyb : reachB gr (nth (0, 0) (rowAt gr (s, g)) k) (i1, i2) = y := by rw [← hy, reachR, if_pos hjx]
    have hsu := overV_succ (gr := gr) (h := (s, g)) (i := (i1, i2)) (k := k) (by omega)
    rw [hyb, ← hb] at hsu
    obtain ⟨Kg, Kf, rfl, hKg, hKc⟩ := hLK.some (by omega)
    obtain ⟨z0, z1⟩ := cell2 hLK.len hKc hkl
    clear hb
    cases b
    · go_wp2
      refine region_plus (by kernel_rfl) (by kernel_rfl) ?_
      (repeat (go_big_quiet_step ((go_at_call 31; exact plus_of (nreaches_is hy hjx (hA5.ex (by with_reducible repeat (first | exact ex_refl _ | exact ex_more | apply ex_alloc | apply ex_plus | apply ex_drew | apply ex_drewN))))))))
      refine wpQuiet_nil ?_
      rintro _ ⟨x2, rfl⟩
      go_wp2
      go_roundw
      case rel => exact ⟨k + 1, y, by omega, by first | rfl | simp, by go_num, by rw [hsu]; rfl, (by with_reducible repeat (first | exact ex_refl _ | exact ex_more | apply ex_alloc | apply ex_plus | apply ex_drew | apply ex_drewN))⟩
      case measure => simp [intOf]; omega
    · go_wp2
      refine region_plus (by kernel_rfl) (by kernel_rfl) ?_
      (repeat (go_big_quiet_step ((go_at_call 31; exact plus_of (nreaches_is hy hjx (hA5.ex (by with_reducible repeat (first | exact ex_refl _ | exact ex_more | apply ex_alloc | apply ex_plus | apply ex_drew | apply ex_drewN))))))))
      refine wpQuiet_nil ?_
      rintro _ ⟨x2, rfl⟩
      go_wp2
      go_roundw
      case rel => exact ⟨k + 1, true, by omega, by first | rfl | simp, by go_num, by rw [hsu]; rfl, (by with_reducible repeat (first | exact ex_refl _ | exact ex_more | apply ex_alloc | apply ex_plus | apply ex_drew | apply ex_drewN))⟩
      case measure => simp [intOf]; omega

set_option maxRecDepth 100000 in
theorem nodesBoth_lifted (os : Os) (started : os.Started) (H : Type) (enc : TypeId × Value → H) :
    ReturnsInHanded {} Try.checked os 8 .any (Rows.nodesBothSpec.pre6 enc Try.prog Try.f8 Rows.nodesBothRow.domain false) (Rows.nodesBothSpec.post enc Try.prog Try.f8 false true false false) := by
  refine returnsInHanded_of_change_sized (C := Try.checked) own started (by kernel_rfl) Try.func8
    (ChangeSpec.witness6 (enc := enc) (C := Try.checked) false ⟨#[], #[.agg #[.slice none 0 0, .slice none 0 0], .agg #[.int .i64 0, .int .i64 0], .agg #[.int .i64 0, .int .i64 0]], []⟩ 8 (by kernel_rfl) (by kernel_rfl) (by kernel_rfl) (by kernel_rfl)) ?_
  intro W base args ds gs before hval0 hW hcnd hsz _
  have hval : ∀ (j : Nat) t v, Try.f8.params[j]? = some t → args[j]? = some v → Value.okWide Try.prog W .any base t v := hval0
  have hW' := hW
  obtain ⟨p, q, hA0, hV, rfl, hfz, hnd⟩ := hW
  have hA : DataW.TrodAll enc Try.prog W 0 (fun _ => true) true Try.f8.params.toList args.toList ds p := hA0
  rw [Try.params8] at hA hval
  obtain ⟨v0, vs0, d0, ds0, p0, q0, hargs, rfl, rfl, h0, r0⟩ := trodAll_cons hA
  obtain ⟨v1, vs1, d1, ds1, p1, q1, rfl, rfl, rfl, h1, r1⟩ := trodAll_cons r0
  obtain ⟨v2, vs2, d2, ds2, p2, q2, rfl, rfl, rfl, h2, r2⟩ := trodAll_cons r1
  obtain ⟨rfl, rfl, rfl⟩ := trodAll_nil r2
  obtain rfl : args = #[v0, v1, v2] := by cases args; simp_all
  obtain ⟨ao0, n0, cap0, ko0, kn0, kcap0, hs0, g0, rfl, hG0⟩ := open_graph Try.underlying27 (by kernel_rfl) (by kernel_rfl) Try.underlying24 (by kernel_rfl) Try.underlying22 (by kernel_rfl) Try.underlying67 (by kernel_rfl) Try.underlying3 Try.underlying4 Try.underlying25 (by kernel_rfl) Try.underlying36 (by kernel_rfl) (by kernel_rfl) (by kernel_rfl) (sm_of hsz (j := 0) (by kernel_rfl) rfl) (hval 0 27 v0 rfl rfl) h0
  obtain ⟨a1_0, a1_1, rfl, ca1_0, ca1_1⟩ := open_flat2 (k := 4) (t := 29) (by kernel_rfl) (by kernel_rfl) (by kernel_rfl) (hval 1 29 v1 rfl rfl) h1
  obtain ⟨a2_0, a2_1, rfl, ca2_0, ca2_1⟩ := open_flat2 (k := 4) (t := 29) (by kernel_rfl) (by kernel_rfl) (by kernel_rfl) (hval 2 29 v2 rfl rfl) h2
  refine (nodesBoth_walk ao0 n0 cap0 ko0 kn0 kcap0 hs0 g0 a1_0 a1_1 a2_0 a2_1  W hG0).mono fun e W' ⟨he, hb⟩ => ?_
  exact ⟨_, he, law_post laidOut Try.underlying4 rfl (by kernel_rfl) (by kernel_rfl) (fun ds h => match ds, h with | [_, _, _], _ => rfl) hW' hb⟩

theorem nodesBoth_holds : Rows.NodesBothSaid :=
  OpenClaim.holds_of_wide 8 Try.f8 rfl rfl rfl rfl rfl rfl rfl ⟨rfl, rfl, rfl, rfl, rfl⟩ rfl rfl rfl rfl rfl (by kernel_rfl) Try.func8 (by kernel_rfl)
    (of_decide_eq_true (by kernel_rfl)) (by unfold Func.isWrapper; first | (rw [if_pos (by decide +kernel)]; kernel_rfl) | (rw [if_neg (by decide +kernel)]; exact ⟨rfl, rfl⟩))
    (fun os started H enc _ => nodesBoth_lifted os started H enc)
#print axioms nodesBoth_holds
end Go.Proofs.Ytmmflpjfgapaaaa
