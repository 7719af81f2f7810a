/- NodesNames is proved: the limit and the error have their numbers, and the chapter's examples hold: the call returns true. No condition. -/
import Derived.Test.YtmmflpjfgapaaaaNodesA
import Derived.Test.YtmmflpjfgapaaaaLaw
namespace Go.Proofs.Ytmmflpjfgapaaaa
open Go.RowKit Go.ChangeShapes Go.WideShapes Go.ChangeAt
set_option linter.unusedSimpArgs false
set_option linter.unusedVariables false
attribute [local go_sem] plus_size plus_drew dn_set dn_alloc dn_plus plus_dn cell_plus frozen_plus set_plus cell_alloc frozen_alloc set_alloc

theorem nkill_is {ao ko : Option Addr} {n cap kn kcap n' kn' : Nat} {hs : List RH} {gr r : Gr} {s g er : Int} {w : World} (hr : killRG gr (s, g) = r) (he : askErr gr (s, g) (s, g) = er) (h1 : r.sl.length = n') (h2 : r.ks.length = kn') (hG : GrAt w ao n ko kn hs gr) :
    Calls Try.prog 12 #[.agg #[.slice ao n cap, .slice ko kn kcap], .agg #[.int .i64 s, .int .i64 g]] w fun e w' => ∃ ao' cap' ko' kcap' hs', e = .returned (.tuple #[.agg #[.slice ao' n' cap', .slice ko' kn' kcap'], .int .i64 er]) ∧ (∃ y, w' = plus w y) ∧ GrOwn w w' ao' n' cap' ko' kn' kcap' hs' r := by
  subst hr he h1 h2
  exact nkill_calls ao n cap ko kn kcap hs gr s g w hG
theorem nunlink_at {ao ko : Option Addr} {n cap kn kcap n' kn' : Nat} {hs : List RH} {gr r : Gr} {s g pos er : Int} {w : World} (hr : unlinkRes gr (s, g) pos = r) (he : unlinkErr gr (s, g) pos = er) (h1 : r.sl.length = n') (h2 : r.ks.length = kn') (hG : GrAt w ao n ko kn hs gr) :
    Calls Try.prog 13 #[.agg #[.slice ao n cap, .slice ko kn kcap], .agg #[.int .i64 s, .int .i64 g], .int .i64 pos] w fun e w' => ∃ ao' cap' ko' kcap' hs', e = .returned (.tuple #[.agg #[.slice ao' n' cap', .slice ko' kn' kcap'], .int .i64 er]) ∧ (∃ y, w' = plus w y) ∧ GrOwn w w' ao' n' cap' ko' kn' kcap' hs' r := by
  subst hr he h1 h2
  exact nunlink_calls ao n cap ko kn kcap hs gr s g pos w hG
/-- the third node between; the second one killed; a graph of children alone -/
def g33 : Gr := ⟨[⟨1, true⟩, ⟨1, true⟩, ⟨1, true⟩], [[(1, 1), (2, 1), (1, 1)], [(2, 1)], []]⟩
def g3k : Gr := ⟨[⟨1, true⟩, ⟨1, false⟩, ⟨1, true⟩], [[], [], []]⟩
def gBad : Gr := ⟨[], [[]]⟩
theorem le1 : linkErr g3 (2, 1) (0, 1) 0 = 60 := by kernel_rfl
theorem le2 : linkErr g3 (2, 1) (2, 1) 0 = 60 := by kernel_rfl
theorem le3 : linkErr g3 (0, 1) (2, 1) 3 = 2 := by kernel_rfl
theorem le4 : linkErr g3 (0, 1) (2, 1) 1 = 0 := by kernel_rfl
theorem lr1 : linkRes g3 (2, 1) (0, 1) 0 = zeroG := by kernel_rfl
theorem lr2 : linkRes g3 (2, 1) (2, 1) 0 = zeroG := by kernel_rfl
theorem lr3 : linkRes g3 (0, 1) (2, 1) 3 = zeroG := by kernel_rfl
theorem lr4 : linkRes g3 (0, 1) (2, 1) 1 = g33 := by kernel_rfl
theorem kr1 : killRG g3 (1, 1) = g3k := by kernel_rfl
theorem ul1 : unlinkRes g3 (0, 1) 2 = zeroG := by kernel_rfl
theorem kk1 : kidsL g33 (0, 1) = [(1, 1), (2, 1), (1, 1)] := by kernel_rfl
theorem kk2 : kidsL g3k (0, 1) = [] := by kernel_rfl
theorem kk3 : kidsL g3k (1, 1) = [] := by kernel_rfl
theorem at_bad {w : World} {b : Nat} (h : w.heap[b]? = some (.cells #[.slice none 0 0] 36)) : GrAt w none 0 (some ⟨b, 0, none⟩) 1 [dRH] gBad :=
  ⟨Lay.nil, ⟨rfl, .inr ⟨b, 0, rfl, blk_lt h, fun j u hu => by
    rw [Nat.zero_add]
    match j, hu with
    | 0, hu => exact cell_blk h hu
    | j + 1, hu => simp [fR] at hu⟩⟩, rfl, fun k hk => by
    match k, hk with
    | 0, _ => exact Lay.nil
    | k + 1, hk => simp at hk, by decide, by decide, by decide +kernel, by decide +kernel, by decide +kernel⟩

set_option maxRecDepth 100000 in
set_option maxHeartbeats 8000000 in
theorem nodesNames_walk (w : World) : Calls Try.prog 3 #[] w fun e w' => e = .returned (.bool true) ∧ Below w.heap.size w w' := by
  go_enter Try.func3, Try.ntmps3
  go_upto_region 2 with (go_at_call 9; refine (three_calls _).mono ?_; rintro e w1 ⟨ao, cap, ko, kcap, hs, rfl, hw1, o1⟩)
  refine name_world (fun v1 => (∃ y, v1 = plus w1 y) ∧ v1.heap[w1.heap.size]? = some (.cells #[.slice ao 3 cap, .slice ko 3 kcap] 27) ∧ v1.heap[w1.heap.size + 1]? = some (.cells #[.int .i64 0, .int .i64 1, .int .i64 1, .int .i64 1, .int .i64 2, .int .i64 1] 30)) ⟨(by with_reducible repeat (first | exact ex_refl _ | exact ex_more | apply ex_alloc | apply ex_plus | apply ex_drew | apply ex_drewN)), (by simp only [blk_alloc]; simp [go_sem, ↓IntWalk.iteOmega]), (by simp only [blk_alloc]; simp [go_sem, ↓IntWalk.iteOmega])⟩ ?_
  rintro v1 ⟨hv1, b0, b1⟩
  have hG1 := (o1.at (by decide) (by decide) (by decide +kernel)).ex hv1
  clear o1
  replace hv1 := ex_on hv1 hw1
  clear hw1
  generalize w1.heap.size = p at *
  have g0 := cell_blk (i := 0) b0 rfl
  have g1 := cell_blk (i := 1) b0 rfl
  have j0 := cell_blk (i := 0) b1 rfl
  have j1 := cell_blk (i := 1) b1 rfl
  have j2 := cell_blk (i := 2) b1 rfl
  have j3 := cell_blk (i := 3) b1 rfl
  have j4 := cell_blk (i := 4) b1 rfl
  have j5 := cell_blk (i := 5) b1 rfl
  have n0 := blk_lt b0
  have n1 := blk_lt b1
  go_upto_region 3 with (go_at_call 10; refine (nlink_is (r := zeroG) (er := 60) (n' := 0) (kn' := 0) lr1 le1 rfl rfl (hG1.ex (by with_reducible repeat (first | exact ex_refl _ | exact ex_more | apply ex_alloc | apply ex_plus | apply ex_drew | apply ex_drewN)))).mono ?_; rintro e w' ⟨a2, c2, k2, kc2, hs2, rfl, ⟨y2, rfl⟩, o2⟩)
  go_upto_region 4 with (go_at_call 10; refine (nlink_is (r := zeroG) (er := 60) (n' := 0) (kn' := 0) lr2 le2 rfl rfl (hG1.ex (by with_reducible repeat (first | exact ex_refl _ | exact ex_more | apply ex_alloc | apply ex_plus | apply ex_drew | apply ex_drewN)))).mono ?_; rintro e w' ⟨a3, c3, k3, kc3, hs3, rfl, ⟨y3, rfl⟩, o3⟩)
  go_upto_region 5 with (go_at_call 10; refine (nlink_is (r := zeroG) (er := 2) (n' := 0) (kn' := 0) lr3 le3 rfl rfl (hG1.ex (by with_reducible repeat (first | exact ex_refl _ | exact ex_more | apply ex_alloc | apply ex_plus | apply ex_drew | apply ex_drewN)))).mono ?_; rintro e w' ⟨a4, c4, k4, kc4, hs4, rfl, ⟨y4, rfl⟩, o4⟩)
  refine name_world (fun v4 => (∃ y, v4 = plus v1 y)) (by with_reducible repeat (first | exact ex_refl _ | exact ex_more | apply ex_alloc | apply ex_plus | apply ex_drew | apply ex_drewN)) ?_
  rintro v4 hv4
  clear o2 o3 o4
  have hG4 := hG1.ex hv4
  have b04 := blk_ex hv4 b0
  have b14 := blk_ex hv4 b1
  replace hv4 := ex_on hv4 hv1
  clear g0 g1 j0 j1 j2 j3 j4 j5 n0 n1
  clear b0 b1 hG1 hv1
  have g0 := cell_blk (i := 0) b04 rfl
  have g1 := cell_blk (i := 1) b04 rfl
  have j0 := cell_blk (i := 0) b14 rfl
  have j1 := cell_blk (i := 1) b14 rfl
  have j2 := cell_blk (i := 2) b14 rfl
  have j3 := cell_blk (i := 3) b14 rfl
  have j4 := cell_blk (i := 4) b14 rfl
  have j5 := cell_blk (i := 5) b14 rfl
  have n0 := blk_lt b04
  have n1 := blk_lt b14
  go_upto_region 6 with (go_at_call 10; refine (nlink_is (r := g33) (er := 0) (n' := 3) (kn' := 3) lr4 le4 rfl rfl (hG4.ex (by with_reducible repeat (first | exact ex_refl _ | exact ex_more | apply ex_alloc | apply ex_plus | apply ex_drew | apply ex_drewN)))).mono ?_; rintro e w' ⟨a5, c5, k5, kc5, hs5, rfl, ⟨y5, rfl⟩, o5⟩)
  refine name_world (fun v5 => (∃ y, v5 = plus (plus v4 y5) y) ∧ v5.heap[v4.heap.size + (blocks y5).size]? = some (.cells #[.slice a5 3 c5, .slice k5 3 kc5] 27)) ⟨(by with_reducible repeat (first | exact ex_refl _ | exact ex_more | apply ex_alloc | apply ex_plus | apply ex_drew | apply ex_drewN)), (by simp only [blk_alloc]; simp [go_sem, ↓IntWalk.iteOmega])⟩ ?_
  rintro v5 ⟨hv5, bx⟩
  have hX := (o5.at (by decide) (by decide) (by decide +kernel)).ex hv5
  clear o5
  have hG5 := hG4.ex (ex_on hv5 ⟨_, rfl⟩)
  have b05 := blk_ex (ex_on hv5 ⟨_, rfl⟩) b04
  have b15 := blk_ex (ex_on hv5 ⟨_, rfl⟩) b14
  replace hv5 := ex_on (ex_on hv5 ⟨_, rfl⟩) hv4
  clear g0 g1 j0 j1 j2 j3 j4 j5 n0 n1
  clear b04 b14 hG4 hv4
  generalize v4.heap.size + (blocks y5).size = q at *
  have g0 := cell_blk (i := 0) b05 rfl
  have g1 := cell_blk (i := 1) b05 rfl
  have j0 := cell_blk (i := 0) b15 rfl
  have j1 := cell_blk (i := 1) b15 rfl
  have j2 := cell_blk (i := 2) b15 rfl
  have j3 := cell_blk (i := 3) b15 rfl
  have j4 := cell_blk (i := 4) b15 rfl
  have j5 := cell_blk (i := 5) b15 rfl
  have n0 := blk_lt b05
  have n1 := blk_lt b15
  have q0 := cell_blk (i := 0) bx rfl
  have q1 := cell_blk (i := 1) bx rfl
  have nq := blk_lt bx
  go_upto_region 7 with (go_at_call 11; refine (nkids_is (l := [(1, 1), (2, 1), (1, 1)]) (er := 0) kk1 (by kernel_rfl) (hX.ex (by with_reducible repeat (first | exact ex_refl _ | exact ex_more | apply ex_alloc | apply ex_plus | apply ex_drew | apply ex_drewN)))).mono ?_; rintro e w' ⟨Ka, Kn, Kc, rfl, ⟨yK, rfl⟩, oK⟩)
  obtain rfl : 3 = Kn := oK.1
  obtain ⟨ka, kf, rfl, hka, hkc⟩ := oK.lay.some (by decide)
  have u2 := hkc 2 _ rfl
  have u3 := hkc 3 _ rfl
  go_upto_region 8 with (go_at_call 12; refine (nkill_is (r := g3k) (er := 0) (n' := 3) (kn' := 3) kr1 (by kernel_rfl) rfl rfl (hG5.ex (by with_reducible repeat (first | exact ex_refl _ | exact ex_more | apply ex_alloc | apply ex_plus | apply ex_drew | apply ex_drewN)))).mono ?_; rintro e w' ⟨a7, c7, k7, kc7, hs7, rfl, ⟨y7, rfl⟩, o7⟩)
  refine name_world (fun v7 => (∃ y, v7 = plus (plus (plus v5 yK) y7) y) ∧ v7.heap[v5.heap.size + (blocks yK).size + (blocks y7).size]? = some (.cells #[.slice a7 3 c7, .slice k7 3 kc7] 27)) ⟨(by with_reducible repeat (first | exact ex_refl _ | exact ex_more | apply ex_alloc | apply ex_plus | apply ex_drew | apply ex_drewN)), (by simp only [blk_alloc]; simp [go_sem, ↓IntWalk.iteOmega])⟩ ?_
  rintro v7 ⟨hv7, by7⟩
  have hY := (o7.at (by decide) (by decide) (by decide +kernel)).ex hv7
  have x2 := cell_ex (ex_on hv7 ⟨_, rfl⟩) u2
  have x3 := cell_ex (ex_on hv7 ⟨_, rfl⟩) u3
  clear o7 oK hkc u2 u3 hka
  have e57 : ∃ y, v7 = plus v5 y := ex_on (ex_on hv7 ⟨_, rfl⟩) ⟨_, rfl⟩
  have hG7 := hG5.ex e57
  have b07 := blk_ex e57 b05
  have b17 := blk_ex e57 b15
  replace hv7 := ex_on e57 hv5
  clear e57 q0 q1 nq bx hX
  clear g0 g1 j0 j1 j2 j3 j4 j5 n0 n1
  clear b05 b15 hG5 hv5
  generalize v5.heap.size + (blocks yK).size + (blocks y7).size = r at *
  have g0 := cell_blk (i := 0) b07 rfl
  have g1 := cell_blk (i := 1) b07 rfl
  have j0 := cell_blk (i := 0) b17 rfl
  have j1 := cell_blk (i := 1) b17 rfl
  have j2 := cell_blk (i := 2) b17 rfl
  have j3 := cell_blk (i := 3) b17 rfl
  have j4 := cell_blk (i := 4) b17 rfl
  have j5 := cell_blk (i := 5) b17 rfl
  have n0 := blk_lt b07
  have n1 := blk_lt b17
  have q0 := cell_blk (i := 0) by7 rfl
  have q1 := cell_blk (i := 1) by7 rfl
  have nq := blk_lt by7
  have nK := cell_lt x2
  go_upto_region 9 with (go_at_call 11; refine (nkids_is (l := []) (er := 0) kk2 (by kernel_rfl) (hY.ex (by with_reducible repeat (first | exact ex_refl _ | exact ex_more | apply ex_alloc | apply ex_plus | apply ex_drew | apply ex_drewN)))).mono ?_; rintro e w' ⟨La, Ln, Lc, rfl, ⟨yL, rfl⟩, oL⟩)
  go_upto_region 10 with (go_at_call 11; refine (nkids_is (l := []) (er := 50) kk3 (by kernel_rfl) (hY.ex (by with_reducible repeat (first | exact ex_refl _ | exact ex_more | apply ex_alloc | apply ex_plus | apply ex_drew | apply ex_drewN)))).mono ?_; rintro e w' ⟨Ma, Mn, Mc, rfl, ⟨yM, rfl⟩, oM⟩)
  go_upto_region 11 with (go_at_call 13; refine (nunlink_at (r := zeroG) (er := 2) (n' := 0) (kn' := 0) ul1 (by kernel_rfl) rfl rfl (hG7.ex (by with_reducible repeat (first | exact ex_refl _ | exact ex_more | apply ex_alloc | apply ex_plus | apply ex_drew | apply ex_drewN)))).mono ?_; rintro e w' ⟨a8, c8, k8, kc8, hs8, rfl, ⟨y8, rfl⟩, o8⟩)
  obtain rfl : 0 = Ln := oL.1
  refine name_world (fun v8 => (∃ y, v8 = plus v7 y)) (by with_reducible repeat (first | exact ex_refl _ | exact ex_more | apply ex_alloc | apply ex_plus | apply ex_drew | apply ex_drewN)) ?_
  rintro v8 hv8
  clear oL oM o8
  have b18 := blk_ex hv8 b17
  replace x2 := cell_ex hv8 x2
  replace x3 := cell_ex hv8 x3
  replace hv8 := ex_on hv8 hv7
  clear hY q0 q1 nq by7 nK
  clear g0 g1 j0 j1 j2 j3 j4 j5 n0 n1
  clear b07 b17 hG7 hv7
  have z4 := cell_blk (i := 4) b18 rfl
  have z5 := cell_blk (i := 5) b18 rfl
  have nz := blk_lt b18
  have nK := cell_lt x2
  have hmk : ∀ w : World, (Instr.makeSlice 25 (.int .i64 1) (.int .i64 1)).run Try.prog w = .ok (.slice (some ⟨w.heap.size, 0, none⟩) 1 1) (w.alloc (.cells #[.slice none 0 0] 36)) := fun w => run_make_rows 1 (by decide) w
  refine region_plus (by kernel_rfl) (by kernel_rfl) ?_
  (repeat (go_big_quiet_step (fail)))
  refine wpQuiet_nil ?_
  rintro _ ⟨xq, rfl⟩
  go_wp2_with (first | (go_at_call 14; refine (plus_post (galive_calls _)).mono ?_; rintro e w' ⟨rfl, na, rfl⟩) | (go_at_call 15; refine (plus_post (nref_is (g := gBad) (e := 8) (by kernel_rfl) none 0 0 _ 1 1 _ (at_bad (by rw [blk_alloc, if_pos (by simp [go_sem])])))).mono ?_; rintro e w' ⟨rfl, nx, rfl⟩))
  go_ret
  exact ⟨rfl, below_ex (by with_reducible repeat (first | exact ex_refl _ | exact ex_more | apply ex_alloc | apply ex_plus | apply ex_drew | apply ex_drewN | (apply ex_on; assumption)))⟩

set_option maxRecDepth 100000 in
theorem nodesNames_lifted (os : Os) (started : os.Started) (H : Type) (enc : TypeId × Value → H) :
    ReturnsInHanded {} Try.checked os 3 .any (Rows.nodesNamesSpec.pre6 enc Try.prog Try.f3 Rows.nodesNamesRow.domain false) (Rows.nodesNamesSpec.post enc Try.prog Try.f3 false true false false) := by
  refine returnsInHanded_of_change (C := Try.checked) own started (by kernel_rfl) Try.func3
    (ChangeSpec.witness6 (enc := enc) (C := Try.checked) false ⟨#[], #[], []⟩ 8 (by kernel_rfl) (by kernel_rfl) (by kernel_rfl) (by kernel_rfl)) ?_
  intro W base args ds gs before hval0 hW hcnd _
  have hval : ∀ (j : Nat) t v, Try.f3.params[j]? = some t → args[j]? = some v → Value.okWide Try.prog W .any base t v := hval0
  have hW' := hW
  obtain ⟨p, q, hA0, hV, rfl, hfz, hnd⟩ := hW
  have hA : DataW.TrodAll enc Try.prog W 0 (fun _ => true) true Try.f3.params.toList args.toList ds p := hA0
  rw [Try.params3] at hA hval
  obtain ⟨hargs, rfl, rfl⟩ := trodAll_nil hA
  obtain rfl : args = #[] := by cases args; simp_all
  refine (nodesNames_walk   W ).mono fun e W' ⟨he, hb⟩ => ?_
  exact ⟨_, he, law_post laidOut Try.underlying4 rfl (by kernel_rfl) (by kernel_rfl) (fun ds h => match ds, h with | [], _ => rfl) hW' hb⟩

theorem nodesNames_holds : Rows.NodesNamesSaid :=
  OpenClaim.holds_of_wide 3 Try.f3 rfl rfl rfl rfl rfl rfl rfl ⟨rfl, rfl, rfl, rfl, rfl⟩ rfl rfl rfl rfl rfl (by kernel_rfl) Try.func3 (by kernel_rfl)
    (of_decide_eq_true (by kernel_rfl)) (by unfold Func.isWrapper; first | (rw [if_pos (by decide +kernel)]; kernel_rfl) | (rw [if_neg (by decide +kernel)]; exact ⟨rfl, rfl⟩))
    (fun os started H enc _ => nodesNames_lifted os started H enc)
#print axioms nodesNames_holds
end Go.Proofs.Ytmmflpjfgapaaaa
