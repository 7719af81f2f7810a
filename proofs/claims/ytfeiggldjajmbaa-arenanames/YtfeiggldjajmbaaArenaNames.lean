/- ArenaNames is proved: the limits and the error have their numbers, and the chapter's examples of making and killing hold: the call returns true. No condition. -/
import Derived.Test.YtfeiggldjajmbaaArenaA
import Derived.Test.YtfeiggldjajmbaaLaw
import Derived.Test.YtfeiggldjajmbaaOpen3
namespace Go.Proofs.Ytfeiggldjajmbaa
open Go.RowKit Go.ChangeShapes Go.WideShapes Go.ChangeAt
set_option linter.unusedSimpArgs false
set_option linter.unusedVariables false
attribute [local go_sem] plus_size plus_drew dn_set dn_alloc dn_plus plus_dn cell_plus frozen_plus set_plus cell_alloc frozen_alloc set_alloc

theorem check_any {ao : Option Addr} {n cap : Nat} {l : List Sl} {w : World} (hl : Lay fS w ao n l) (hn : n ≤ 1000) :
    Calls Try.prog 10 #[.agg #[.slice ao n cap]] w fun e w' => e = .returned (.int .i64 (allErr l)) ∧ Below w.heap.size w w' := lcheck_calls ao n cap l w hl (by omega)

set_option maxRecDepth 100000 in
set_option maxHeartbeats 4000000 in
theorem arenaNames_walk (w : World) : Calls Try.prog 3 #[] w fun e w' => e = .returned (.bool true) ∧ Below w.heap.size w w' := by
  go_enter Try.func3, Try.ntmps3
  go_upto_region 2 with (go_at_call 7; refine (lmake_is (l := []) (r := [⟨1, true⟩]) (n' := 1) (s := 0) (g := 1) (er := 0) rfl rfl rfl rfl rfl (Lay.nil) (by decide)).mono ?_; rintro e w1 ⟨a1, c1, rfl, hw1, o1⟩)
  have bA : ((w1.alloc (.cells #[.slice a1 1 c1] 24)).alloc (.cells #[.int .i64 0, .int .i64 1] 26)).heap[w1.heap.size]? = some (.cells #[.slice a1 1 c1] 24) := by rw [blk_alloc, if_neg (by simp), blk_alloc, if_pos rfl]
  have bH : ((w1.alloc (.cells #[.slice a1 1 c1] 24)).alloc (.cells #[.int .i64 0, .int .i64 1] 26)).heap[w1.heap.size + 1]? = some (.cells #[.int .i64 0, .int .i64 1] 26) := by rw [blk_alloc, if_pos (by simp)]
  have o := o1.ex (ex_alloc (o := .cells #[.int .i64 0, .int .i64 1] 26) (ex_alloc (o := .cells #[.slice a1 1 c1] 24) (ex_refl w1)))
  have hx : ∃ y, (w1.alloc (.cells #[.slice a1 1 c1] 24)).alloc (.cells #[.int .i64 0, .int .i64 1] 26) = plus w y := (by with_reducible repeat (first | exact ex_refl _ | exact ex_more | apply ex_alloc | apply ex_plus | apply ex_drew | apply ex_drewN | (apply ex_on; assumption)))
  generalize (w1.alloc (.cells #[.slice a1 1 c1] 24)).alloc (.cells #[.int .i64 0, .int .i64 1] 26) = v1 at *
  clear o1
  have cA := cell_blk (i := 0) bA rfl
  have cH := cell_blk (i := 0) bH rfl
  have cH' := cell_blk (i := 1) bH rfl
  have lA := blk_lt bA
  have lH := blk_lt bH
  go_upto_region 3 with (go_at_call 8; refine (lkill_is (l := [⟨1, true⟩]) (r := [⟨1, false⟩]) (n' := 1) (s := 0) (g := 1) (er := 0) rfl rfl rfl (o.lay.ex (by with_reducible repeat (first | exact ex_refl _ | exact ex_more | apply ex_alloc | apply ex_plus | apply ex_drew | apply ex_drewN))) (by decide)).mono ?_; rintro e w' ⟨a2, c2, rfl, ⟨y2, rfl⟩, o2⟩)
  go_upto_region 4 with (go_at_call 8; refine (lkill_is (l := [⟨1, false⟩]) (r := []) (n' := 0) (s := 0) (g := 1) (er := 50) rfl rfl rfl (o2.lay.ex (by with_reducible repeat (first | exact ex_refl _ | exact ex_more | apply ex_alloc | apply ex_plus | apply ex_drew | apply ex_drewN))) (by decide)).mono ?_; rintro e w' ⟨a3, c3, rfl, ⟨y3, rfl⟩, o3⟩)
  go_upto_region 5 with (go_at_call 8; refine (lkill_is (l := [⟨1, true⟩]) (r := []) (n' := 0) (s := 5) (g := 1) (er := 50) rfl rfl rfl (o.lay.ex (by with_reducible repeat (first | exact ex_refl _ | exact ex_more | apply ex_alloc | apply ex_plus | apply ex_drew | apply ex_drewN))) (by decide)).mono ?_; rintro e w' ⟨a4, c4, rfl, ⟨y4, rfl⟩, o4⟩)
  go_upto_region 6 with (go_at_call 8; refine (lkill_is (l := [⟨1, true⟩]) (r := []) (n' := 0) (s := (-1)) (g := 1) (er := 50) rfl rfl rfl (o.lay.ex (by with_reducible repeat (first | exact ex_refl _ | exact ex_more | apply ex_alloc | apply ex_plus | apply ex_drew | apply ex_drewN))) (by decide)).mono ?_; rintro e w' ⟨a5, c5, rfl, ⟨y5, rfl⟩, o5⟩)
  have hx5 : ∃ y, (plus ((plus ((plus ((plus v1 y2).alloc (.cells #[.slice a2 1 c2] 24)) y3).alloc (.cells #[.slice a3 0 c3] 24)) y4).alloc (.cells #[.slice a4 0 c4] 24)) y5).alloc (.cells #[.slice a5 0 c5] 24) = plus w y := (by with_reducible repeat (first | exact ex_refl _ | exact ex_more | apply ex_alloc | apply ex_plus | apply ex_drew | apply ex_drewN | (apply ex_on; assumption)))
  generalize (plus ((plus ((plus ((plus v1 y2).alloc (.cells #[.slice a2 1 c2] 24)) y3).alloc (.cells #[.slice a3 0 c3] 24)) y4).alloc (.cells #[.slice a4 0 c4] 24)) y5).alloc (.cells #[.slice a5 0 c5] 24) = v5 at *
  go_upto_region 7 with fail
  have hbad : Lay fS ((v5.alloc (.cells #[.int .i64 0, .bool false] 33)).alloc (.cells #[.slice (some ⟨v5.heap.size, 0, none⟩) 1 1] 24)) (some ⟨v5.heap.size, 0, none⟩) 1 [⟨0, false⟩] := ⟨rfl, .inr ⟨_, 0, rfl, by simp [go_sem], fun jj u hu => by match jj, hu with | 0, hu => (simp [fS] at hu; subst hu; simp [go_sem, ↓IntWalk.iteOmega]) | 1, hu => (simp [fS] at hu; subst hu; simp [go_sem, ↓IntWalk.iteOmega]) | jj + 2, hu => simp [fS] at hu⟩⟩
  go_upto_region 8 with (go_at_call 7; refine (lmake_is (l := [⟨0, false⟩]) (r := []) (n' := 0) (s := 0) (g := 0) (er := 8) rfl rfl rfl rfl rfl (hbad.ex (by with_reducible repeat (first | exact ex_refl _ | exact ex_more | apply ex_alloc | apply ex_plus | apply ex_drew | apply ex_drewN))) (by decide)).mono ?_; rintro e w' ⟨a6, c6, rfl, ⟨y6, rfl⟩, o6⟩)
  go_wp2_with (first | (go_at_call 9; refine (plus_post (aalive_calls _)).mono ?_; rintro e w' ⟨rfl, nx, rfl⟩) | (go_at_call 10; refine (plus_post (check_any (by first | exact hbad.ex (by with_reducible repeat (first | exact ex_refl _ | exact ex_more | apply ex_alloc | apply ex_plus | apply ex_drew | apply ex_drewN)) | exact Lay.nil) (by decide))).mono ?_; rintro e w' ⟨rfl, nx, rfl⟩; (first | rw [show allErr [⟨0, false⟩] = 8 from rfl] | rw [show allErr [] = 0 from rfl])))
  go_ret
  exact ⟨rfl, below_ex (by with_reducible repeat (first | exact ex_refl _ | exact ex_more | apply ex_alloc | apply ex_plus | apply ex_drew | apply ex_drewN | (apply ex_on; assumption)))⟩

set_option maxRecDepth 100000 in
theorem arenaNames_lifted (os : Os) (started : os.Started) (H : Type) (enc : TypeId × Value → H) :
    ReturnsInHanded {} Try.checked os 3 .any (Rows.arenaNamesSpec.pre6 enc Try.prog Try.f3 Rows.arenaNamesRow.domain false) (Rows.arenaNamesSpec.post enc Try.prog Try.f3 false true false false) := by
  refine returnsInHanded_of_change (C := Try.checked) own started (by kernel_rfl) Try.func3
    (ChangeSpec.witness6 (enc := enc) (C := Try.checked) false ⟨#[], #[], []⟩ 8 (by kernel_rfl) (by kernel_rfl) (by kernel_rfl) (by kernel_rfl)) ?_
  intro W base args ds gs before hval0 hW hcnd _
  have hval : ∀ (j : Nat) t v, Try.f3.params[j]? = some t → args[j]? = some v → Value.okWide Try.prog W .any base t v := hval0
  have hW' := hW
  obtain ⟨p, q, hA0, hV, rfl, hfz, hnd⟩ := hW
  have hA : DataW.TrodAll enc Try.prog W 0 (fun _ => true) true Try.f3.params.toList args.toList ds p := hA0
  rw [Try.params3] at hA hval
  obtain ⟨hargs, rfl, rfl⟩ := trodAll_nil hA
  obtain rfl : args = #[] := by cases args; simp_all
  refine (arenaNames_walk   W ).mono fun e W' ⟨he, hb⟩ => ?_
  exact ⟨_, he, law_post laidOut Try.underlying4 rfl (by kernel_rfl) (by kernel_rfl) (fun ds h => match ds, h with | [], _ => rfl) hW' hb⟩

theorem arenaNames_holds : Rows.ArenaNamesSaid :=
  OpenClaim.holds_of_wide 3 Try.f3 rfl rfl rfl rfl rfl rfl rfl ⟨rfl, rfl, rfl, rfl, rfl⟩ rfl rfl rfl rfl rfl (by kernel_rfl) Try.func3 (by kernel_rfl)
    (of_decide_eq_true (by kernel_rfl)) (by unfold Func.isWrapper; first | (rw [if_pos (by decide +kernel)]; kernel_rfl) | (rw [if_neg (by decide +kernel)]; exact ⟨rfl, rfl⟩))
    (fun os started H enc _ => arenaNames_lifted os started H enc)
#print axioms arenaNames_holds
end Go.Proofs.Ytfeiggldjajmbaa
