/- What dioramalaw05.alive gives. -/
import Derived.Test.YtfeiggldjajmbaaArena9
namespace Go.Proofs.Ytfeiggldjajmbaa
open Go.RowKit Go.ChangeShapes Go.WideShapes Go.ChangeAt
set_option linter.unusedSimpArgs false
set_option linter.unusedVariables false
attribute [local go_sem] plus_size plus_drew dn_set dn_alloc dn_plus plus_dn cell_plus frozen_plus set_plus cell_alloc frozen_alloc set_alloc

theorem lmake_is {ao : Option Addr} {n cap n' : Nat} {l r : List Sl} {s g er : Int} {w : World} (hr : mkRes l = r) (hs : mkS l = s) (hg : mkG l = g) (he : mkErr l = er) (hn' : r.length = n') (hl : Lay fS w ao n l) (hn : n ≤ 1000) :
    Calls Try.prog 7 #[.agg #[.slice ao n cap]] w fun e w' => ∃ ao' cap', e = .returned (.tuple #[.agg #[.slice ao' n' cap'], .agg #[.int .i64 s, .int .i64 g], .int .i64 er]) ∧ (∃ y, w' = plus w y) ∧ Own 33 2 fS w w' ao' n' cap' r := by
  subst hr hs hg he hn'
  exact lmake_calls ao n cap l w hl hn
theorem lkill_is {ao : Option Addr} {n cap n' : Nat} {l r : List Sl} {s g er : Int} {w : World} (hr : killRes l s g = r) (he : killErr l s g = er) (hn' : r.length = n') (hl : Lay fS w ao n l) (hn : n ≤ 1000) :
    Calls Try.prog 8 #[.agg #[.slice ao n cap], .agg #[.int .i64 s, .int .i64 g]] w fun e w' => ∃ ao' cap', e = .returned (.tuple #[.agg #[.slice ao' n' cap'], .int .i64 er]) ∧ (∃ y, w' = plus w y) ∧ Own 33 2 fS w w' ao' n' cap' r := by
  subst hr he hn'
  exact lkill_calls ao n cap l s g w hl hn
theorem ex_size {w w' : World} (h : ∃ y, w' = plus w y) : w.heap.size ≤ w'.heap.size := by
  obtain ⟨y, rfl⟩ := h
  rw [plus_size]
  omega

set_option maxRecDepth 100000 in
set_option maxHeartbeats 4000000 in
theorem aalive_calls (w : World) : Calls Try.prog 9 #[] w fun e w' => e = .returned (.bool true) ∧ Below w.heap.size w w' := by
  go_enter Try.func9, Try.ntmps9
  go_upto_region 2 with (go_at_call 7; refine (lmake_is (l := []) (r := [⟨1, true⟩]) (n' := 1) (s := 0) (g := 1) (er := 0) rfl rfl rfl rfl rfl (Lay.nil) (by decide)).mono ?_; rintro e w1 ⟨a1, c1, rfl, hw1, o1⟩)
  have hs1 := ex_size hw1
  have bA : ((w1.alloc (.cells #[.slice a1 1 c1] 24)).alloc (.cells #[.int .i64 0, .int .i64 1] 26)).heap[w1.heap.size]? = some (.cells #[.slice a1 1 c1] 24) := by rw [blk_alloc, if_neg (by simp), blk_alloc, if_pos rfl]
  have bH : ((w1.alloc (.cells #[.slice a1 1 c1] 24)).alloc (.cells #[.int .i64 0, .int .i64 1] 26)).heap[w1.heap.size + 1]? = some (.cells #[.int .i64 0, .int .i64 1] 26) := by rw [blk_alloc, if_pos (by simp)]
  have o := (o1.ex (ex_alloc (o := .cells #[.int .i64 0, .int .i64 1] 26) (ex_alloc (o := .cells #[.slice a1 1 c1] 24) (ex_refl w1)))).base (T' := w) (by omega)
  have hx : ∃ y, (w1.alloc (.cells #[.slice a1 1 c1] 24)).alloc (.cells #[.int .i64 0, .int .i64 1] 26) = plus w y := (by with_reducible repeat (first | exact ex_refl _ | exact ex_more | apply ex_alloc | apply ex_plus | apply ex_drew | apply ex_drewN | (apply ex_on; assumption)))
  generalize (w1.alloc (.cells #[.slice a1 1 c1] 24)).alloc (.cells #[.int .i64 0, .int .i64 1] 26) = v1 at *
  clear o1
  have cA := cell_blk (i := 0) bA rfl
  go_upto_region 3 with (go_at_call 7; refine (lmake_is (l := [⟨1, true⟩]) (r := [⟨1, true⟩, ⟨1, true⟩]) (n' := 2) (s := 1) (g := 1) (er := 0) rfl rfl rfl rfl rfl (o.lay.ex (by with_reducible repeat (first | exact ex_refl _ | exact ex_more | apply ex_alloc | apply ex_plus | apply ex_drew | apply ex_drewN))) (by decide)).mono ?_; rintro e w2 ⟨a2, c2, rfl, hw2, o2⟩; have bA2 := blk_ex hw2 bA; have bH2 := blk_ex hw2 bH; have cA2 := cell_blk (i := 0) bA2 rfl; have fA2 := frozen_blk (i := 0) bA2; have lA2 := blk_lt bA2; have lH2 := blk_lt bH2)
  have bA3 := blk_ex (ex_alloc (o := (.cells #[.int .i64 1, .int .i64 1] 26)) (ex_refl _)) (blk_set_eq (i := 0) (u := .slice a2 2 c2) bA2)
  have bH3 := blk_ex (ex_alloc (o := (.cells #[.int .i64 1, .int .i64 1] 26)) (ex_refl _)) ((blk_set_ne (i := 0) (u := .slice a2 2 c2) (show w1.heap.size ≠ w1.heap.size + 1 by omega)).trans bH2)
  have bI3 : ((w2.setCell ⟨w1.heap.size, 0, none⟩ (.slice a2 2 c2)).alloc (.cells #[.int .i64 1, .int .i64 1] 26)).heap[w2.heap.size]? = some (.cells #[.int .i64 1, .int .i64 1] 26) := by rw [blk_alloc, if_pos (by rw [size_set])]
  have o3 := ((o2.set_other (i := 0) (u := .slice a2 2 c2) bA2 (by decide)).ex (ex_alloc (o := (.cells #[.int .i64 1, .int .i64 1] 26)) (ex_refl _))).base (T' := w) (ex_size hx)
  have hx3 : ∃ y, (w2.setCell ⟨w1.heap.size, 0, none⟩ (.slice a2 2 c2)).alloc (.cells #[.int .i64 1, .int .i64 1] 26) = plus w y := ex_alloc (ex_set_new (ex_on hw2 hx) hs1)
  generalize (w2.setCell ⟨w1.heap.size, 0, none⟩ (.slice a2 2 c2)).alloc (.cells #[.int .i64 1, .int .i64 1] 26) = v2 at *
  clear o2 o bA bH bA2 bH2 cA fA2 cA2 hx
  have cA := cell_blk (i := 0) bA3 rfl
  have cH := cell_blk (i := 0) bH3 rfl
  have cH' := cell_blk (i := 1) bH3 rfl
  go_upto_region 4 with (go_at_call 8; refine (lkill_is (l := [⟨1, true⟩, ⟨1, true⟩]) (r := [⟨1, false⟩, ⟨1, true⟩]) (n' := 2) (s := 0) (g := 1) (er := 0) rfl rfl rfl (o3.lay.ex (by with_reducible repeat (first | exact ex_refl _ | exact ex_more | apply ex_alloc | apply ex_plus | apply ex_drew | apply ex_drewN))) (by decide)).mono ?_; rintro e w3 ⟨a3, c3, rfl, hw3, o3'⟩; have bA4 := blk_ex hw3 bA3; have bH4 := blk_ex hw3 bH3; have bI4 := blk_ex hw3 bI3; have cA4 := cell_blk (i := 0) bA4 rfl; have fA4 := frozen_blk (i := 0) bA4; have lA4 := blk_lt bA4)
  have bA5 := blk_set_eq (i := 0) (u := .slice a3 2 c3) bA4
  have bH5 := (blk_set_ne (i := 0) (u := .slice a3 2 c3) (show w1.heap.size ≠ w1.heap.size + 1 by omega)).trans bH4
  have bI5 := (blk_set_ne (i := 0) (u := .slice a3 2 c3) (show w1.heap.size ≠ w2.heap.size by omega)).trans bI4
  have o5 := (o3'.set_other (i := 0) (u := .slice a3 2 c3) bA4 (by decide)).base (T' := w) (ex_size hx3)
  have hx5 : ∃ y, w3.setCell ⟨w1.heap.size, 0, none⟩ (.slice a3 2 c3) = plus w y := ex_set_new (ex_on hw3 hx3) hs1
  generalize w3.setCell ⟨w1.heap.size, 0, none⟩ (.slice a3 2 c3) = v3 at *
  clear o3 o3' bA3 bH3 bI3 bA4 bH4 bI4 cA fA4 cA4 hx3 cH cH'
  have cA := cell_blk (i := 0) bA5 rfl
  go_upto_region 5 with (go_at_call 7; refine (lmake_is (l := [⟨1, false⟩, ⟨1, true⟩]) (r := [⟨2, true⟩, ⟨1, true⟩]) (n' := 2) (s := 0) (g := 2) (er := 0) rfl rfl rfl rfl rfl (o5.lay.ex (by with_reducible repeat (first | exact ex_refl _ | exact ex_more | apply ex_alloc | apply ex_plus | apply ex_drew | apply ex_drewN))) (by decide)).mono ?_; rintro e w4 ⟨a4, c4, rfl, hw4, o6⟩; have bA6 := blk_ex hw4 bA5; have bH6 := blk_ex hw4 bH5; have bI6 := blk_ex hw4 bI5; have cA6 := cell_blk (i := 0) bA6 rfl; have fA6 := frozen_blk (i := 0) bA6; have lA6 := blk_lt bA6; have lH6 := blk_lt bH6; have lI6 := blk_lt bI6)
  have bA7 := blk_ex (ex_alloc (o := (.cells #[.int .i64 0, .int .i64 2] 26)) (ex_refl _)) (blk_set_eq (i := 0) (u := .slice a4 2 c4) bA6)
  have bH7 := blk_ex (ex_alloc (o := (.cells #[.int .i64 0, .int .i64 2] 26)) (ex_refl _)) ((blk_set_ne (i := 0) (u := .slice a4 2 c4) (show w1.heap.size ≠ w1.heap.size + 1 by omega)).trans bH6)
  have bI7 := blk_ex (ex_alloc (o := (.cells #[.int .i64 0, .int .i64 2] 26)) (ex_refl _)) ((blk_set_ne (i := 0) (u := .slice a4 2 c4) (show w1.heap.size ≠ w2.heap.size by omega)).trans bI6)
  have bK7 : ((w4.setCell ⟨w1.heap.size, 0, none⟩ (.slice a4 2 c4)).alloc (.cells #[.int .i64 0, .int .i64 2] 26)).heap[w4.heap.size]? = some (.cells #[.int .i64 0, .int .i64 2] 26) := by rw [blk_alloc, if_pos (by rw [size_set])]
  have o7 := ((o6.set_other (i := 0) (u := .slice a4 2 c4) bA6 (by decide)).ex (ex_alloc (o := (.cells #[.int .i64 0, .int .i64 2] 26)) (ex_refl _))).base (T' := w) (ex_size hx5)
  have hx7 : ∃ y, (w4.setCell ⟨w1.heap.size, 0, none⟩ (.slice a4 2 c4)).alloc (.cells #[.int .i64 0, .int .i64 2] 26) = plus w y := ex_alloc (ex_set_new (ex_on hw4 hx5) hs1)
  generalize (w4.setCell ⟨w1.heap.size, 0, none⟩ (.slice a4 2 c4)).alloc (.cells #[.int .i64 0, .int .i64 2] 26) = v4 at *
  clear o5 o6 bA5 bH5 bI5 bA6 bH6 bI6 cA fA6 cA6 hx5
  have cA := cell_blk (i := 0) bA7 rfl
  have cH := cell_blk (i := 0) bH7 rfl
  have cH' := cell_blk (i := 1) bH7 rfl
  have cI := cell_blk (i := 0) bI7 rfl
  have cI' := cell_blk (i := 1) bI7 rfl
  have cK := cell_blk (i := 0) bK7 rfl
  have cK' := cell_blk (i := 1) bK7 rfl
  have lA := blk_lt bA7
  have lH := blk_lt bH7
  have lI := blk_lt bI7
  have lK := blk_lt bK7
  have hl := o7.lay
  go_wp2_with (go_at_call 20; refine (plus_post (lholds_calls _ _ _ [⟨2, true⟩, ⟨1, true⟩] _ _ _ (hl.ex (by with_reducible repeat (first | exact ex_refl _ | exact ex_more | apply ex_alloc | apply ex_plus | apply ex_drew | apply ex_drewN))) (by decide))).mono ?_; rintro e w' ⟨rfl, nx, rfl⟩; (first | rw [show holds [⟨2, true⟩, ⟨1, true⟩] 0 1 = false from rfl] | rw [show holds [⟨2, true⟩, ⟨1, true⟩] 0 2 = true from rfl]))
  go_ret
  exact ⟨rfl, below_ex (by with_reducible repeat (first | exact ex_refl _ | exact ex_more | apply ex_alloc | apply ex_plus | apply ex_drew | apply ex_drewN | (apply ex_on; assumption)))⟩

end Go.Proofs.Ytfeiggldjajmbaa
