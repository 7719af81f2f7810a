/- MeshNames is proved: the limits have their numbers, and the chapter's examples hold: the call returns true. No condition. -/
import Derived.Test.YtkiahgkfgcjkgaaMesh6
import Derived.Test.YtkiahgkfgcjkgaaMesh10
import Derived.Test.YtkiahgkfgcjkgaaLaw
import Derived.BigRegion
import Derived.Deep.DeepCutAuto
import Derived.Laws.MakeOwn
namespace Go.Proofs.Ytkiahgkfgcjkgaa
open Go.RowKit Go.ChangeShapes Go.WideShapes Go.ChangeAt
set_option linter.unusedSimpArgs false
set_option linter.unusedVariables false
attribute [local go_sem] plus_size plus_drew dn_set dn_alloc dn_plus plus_dn cell_plus frozen_plus set_plus cell_alloc frozen_alloc set_alloc

attribute [local go_sem] eqarr_34 nearr_34 larr_34

attribute [local go_sem] eqarr_50 nearr_50 larr_50

attribute [local go_sem] isnil_26

attribute [local go_sem] isnil_29

attribute [local go_sem] isnil_30

attribute [local go_sem] isnil_31

theorem mk3_29 (w : World) : (Instr.makeSlice 29 (.int .i64 3) (.int .i64 3)).run Try.prog w = .ok (.slice (some ⟨w.heap.size, 0, none⟩) 3 3) (w.alloc (.cells #[.int .i64 0, .int .i64 0, .int .i64 0, .int .i64 0, .int .i64 0, .int .i64 0, .int .i64 0, .int .i64 0, .int .i64 0] 49)) := by
  obtain ⟨i, hi, hz, h1, h2⟩ := info_parts (P := Try.prog) (e := 49) (z := .agg #[.int .i64 0, .int .i64 0, .int .i64 0]) (size := 3) (bytes := 24) (by kernel_rfl)
  have h := run_makeSlice (P := Try.prog) w 29 49 i (.agg #[.int .i64 0, .int .i64 0, .int .i64 0]) Try.underlying29 hi hz .i64 .i64 3 3 (by decide) (by decide) (by rw [h1]; decide) (by rw [h2]; decide) (by decide)
  rw [h, h1, show madeCells (Value.agg #[.int .i64 0, .int .i64 0, .int .i64 0]).cells (Int.toNat 3 * 3) = #[.int .i64 0, .int .i64 0, .int .i64 0, .int .i64 0, .int .i64 0, .int .i64 0, .int .i64 0, .int .i64 0, .int .i64 0] by kernel_rfl]
  rfl

theorem mk3_30 (w : World) : (Instr.makeSlice 30 (.int .i64 3) (.int .i64 3)).run Try.prog w = .ok (.slice (some ⟨w.heap.size, 0, none⟩) 3 3) (w.alloc (.cells #[.int .i64 0, .int .i64 0, .int .i64 0, .int .i64 0, .int .i64 0, .int .i64 0] 50)) := by
  obtain ⟨i, hi, hz, h1, h2⟩ := info_parts (P := Try.prog) (e := 50) (z := .agg #[.int .i64 0, .int .i64 0]) (size := 2) (bytes := 16) (by kernel_rfl)
  have h := run_makeSlice (P := Try.prog) w 30 50 i (.agg #[.int .i64 0, .int .i64 0]) Try.underlying30 hi hz .i64 .i64 3 3 (by decide) (by decide) (by rw [h1]; decide) (by rw [h2]; decide) (by decide)
  rw [h, h1, show madeCells (Value.agg #[.int .i64 0, .int .i64 0]).cells (Int.toNat 3 * 2) = #[.int .i64 0, .int .i64 0, .int .i64 0, .int .i64 0, .int .i64 0, .int .i64 0] by kernel_rfl]
  rfl

theorem mk65_29 (w : World) : (Instr.makeSlice 29 (.int .i64 65) (.int .i64 65)).run Try.prog w = .ok (.slice (some ⟨w.heap.size, 0, none⟩) 65 65) (w.alloc (.cells (madeCells (Value.agg #[.int .i64 0, .int .i64 0, .int .i64 0]).cells 195) 49)) := by
  obtain ⟨i, hi, hz, h1, h2⟩ := info_parts (P := Try.prog) (e := 49) (z := .agg #[.int .i64 0, .int .i64 0, .int .i64 0]) (size := 3) (bytes := 24) (by kernel_rfl)
  have h := run_makeSlice (P := Try.prog) w 29 49 i (.agg #[.int .i64 0, .int .i64 0, .int .i64 0]) Try.underlying29 hi hz .i64 .i64 65 65 (by decide) (by decide) (by rw [h1]; decide) (by rw [h2]; decide) (by decide)
  rw [h, h1]
  rfl

attribute [local go_sem] mk3_29 mk3_30 mk65_29

theorem blk_drew (w : World) (g : Nat) : w.drew.heap[g]? = w.heap[g]? := rfl
theorem blk_alloc (w : World) (o : Obj) (g : Nat) : (w.alloc o).heap[g]? = if g = w.heap.size then some o else w.heap[g]? := by
  show (w.heap.push o)[g]? = _
  rw [Array.getElem?_push]
theorem sz_alloc (w : World) (o : Obj) : (w.alloc o).heap.size = w.heap.size + 1 := by
  show (w.heap.push o).size = _
  rw [Array.size_push]
theorem cell_blk {w : World} {g i : Nat} {c : Array Value} {t : TypeId} {u : Value} (h : w.heap[g]? = some (.cells c t)) (hi : c[i]? = some u) : w.cell? ⟨g, i, none⟩ = some u := by
  simp [World.cell?, h, hi]
theorem blk_lt {w : World} {g : Nat} {o : Obj} (h : w.heap[g]? = some o) : g < w.heap.size := (Array.getElem?_eq_some_iff.1 h).1
/-- the list of a block's cells -/
theorem lay_blk {α : Type} {f : α → List Value} {w : World} {g n : Nat} {c : Array Value} {t : TypeId} {l : List α} (h : w.heap[g]? = some (.cells c t)) (hl : l.length = n) (hc : l.flatMap f = c.toList) : Lay f w (some ⟨g, 0, none⟩) n l :=
  ⟨hl, .inr ⟨g, 0, rfl, blk_lt h, fun j u hu => by rw [hc] at hu; rw [Nat.zero_add]; exact cell_blk h (by simpa using hu)⟩⟩

theorem check_any (va ua pa : Option Addr) (vn vc un uc pn pc : Nat) (hs : List PH) (w : World) (r : Int) (H : 64 < vn ∧ r = 4 ∨ ∃ hs m, MeshAt w ⟨va, vn, vc, ua, un, uc, pa, pn, pc⟩ hs m ∧ r = msErr m) :
    Calls Try.prog 11 #[.agg #[.slice va vn vc, .slice ua un uc, .slice pa pn pc]] w fun e w' => e = .returned (.int .i64 r) ∧ Below w.heap.size w w' := by
  rcases H with ⟨h, rfl⟩ | ⟨hs, m, hm, rfl⟩
  · exact check_many va ua pa vn vc un uc pn pc [] w h
  · exact check_calls va ua pa vn vc un uc pn pc hs m w hm

set_option maxRecDepth 100000 in
set_option maxHeartbeats 8000000 in
theorem meshNames_walk (w : World) : Calls Try.prog 3 #[] w fun e w' => e = .returned (.bool true) ∧ Below w.heap.size w w' := by
  go_enter Try.func3, Try.ntmps3
  go_upto_region 2 with (go_at_call 9; refine (mprim_calls _ _ _ _ [0, 1, 2, 3] _ (by decide) ⟨rfl, .inr ⟨_, 0, rfl, by simp [go_sem], fun jj u hu => by match jj, hu with | 0, hu => (simp [fI] at hu; subst hu; simp [go_sem, ↓IntWalk.iteOmega]) | 1, hu => (simp [fI] at hu; subst hu; simp [go_sem, ↓IntWalk.iteOmega]) | 2, hu => (simp [fI] at hu; subst hu; simp [go_sem, ↓IntWalk.iteOmega]) | 3, hu => (simp [fI] at hu; subst hu; simp [go_sem, ↓IntWalk.iteOmega]) | jj + 4, hu => simp [fI] at hu⟩⟩ (by decide)).mono ?_; rintro e w1 ⟨ao1, m1, cap1, rfl, hw1, hl1⟩; rw [show prErr ⟨2, [0, 1, 2, 3]⟩ = 0 from rfl]; obtain rfl : m1 = 2 := hl1.len.symm)
  go_upto_region 3 with (go_at_call 9; refine (mprim_calls _ _ _ _ [0, 1, 2, 3] _ (by decide) ⟨rfl, .inr ⟨_, 0, rfl, by simp [go_sem], fun jj u hu => by match jj, hu with | 0, hu => (simp [fI] at hu; subst hu; simp [go_sem, ↓IntWalk.iteOmega]) | 1, hu => (simp [fI] at hu; subst hu; simp [go_sem, ↓IntWalk.iteOmega]) | 2, hu => (simp [fI] at hu; subst hu; simp [go_sem, ↓IntWalk.iteOmega]) | 3, hu => (simp [fI] at hu; subst hu; simp [go_sem, ↓IntWalk.iteOmega]) | jj + 4, hu => simp [fI] at hu⟩⟩ (by decide)).mono ?_; rintro e w2 ⟨ao2, m2, cap2, rfl, hw2, hl2⟩; rw [show prErr ⟨0, [0, 1, 2, 3]⟩ = 40 from rfl])
  go_upto_region 4 with (go_at_call 9; refine (mprim_calls _ _ _ _ [] _ (by decide) Lay.nil (by decide)).mono ?_; rintro e w3 ⟨ao3, m3, cap3, rfl, hw3, hl3⟩; rw [show prErr ⟨3, []⟩ = 2 from rfl])
  obtain ⟨g1, o1, rfl, hg1, hc1⟩ := hl1.some (by decide)
  have c0 := hc1 0 _ rfl
  have c1 := hc1 1 _ rfl
  have c2 := hc1 2 _ rfl
  have c3 := hc1 3 _ rfl
  have c4 := hc1 4 _ rfl
  have c5 := hc1 5 _ rfl
  rw [Nat.add_zero] at c0
  go_cut [7] (fun p wr => ∃ b g1 g2 g3 g4 : Nat, p = .pointer (some ⟨b, 0, none⟩) ∧ (∃ y, wr = plus w3 y) ∧ wr.heap[b]? = some (.cells #[.slice (some ⟨g1, 0, none⟩) 3 3, .slice (some ⟨g2, 0, none⟩) 3 3, .slice (some ⟨g3, 0, none⟩) 1 1] 33) ∧ wr.heap[g1]? = some (.cells #[.int .i64 0, .int .i64 0, .int .i64 0, .int .i64 0, .int .i64 0, .int .i64 0, .int .i64 0, .int .i64 0, .int .i64 0] 49) ∧ wr.heap[g2]? = some (.cells #[.int .i64 0, .int .i64 0, .int .i64 0, .int .i64 0, .int .i64 0, .int .i64 0] 50) ∧ wr.heap[g3]? = some (.cells #[.int .u8 2, .slice (some ⟨g4, 0, none⟩) 3 3] 28) ∧ wr.heap[g4]? = some (.cells #[.int .i64 0, .int .i64 1, .int .i64 3] 3))
  case first =>
    go_region
    all_goals
      go_wp2
      go_meet
      (repeat apply Exists.intro)
      refine ⟨rfl, (by with_reducible repeat (first | exact ex_refl _ | exact ex_more | apply ex_alloc | apply ex_plus | apply ex_drew | apply ex_drewN)), ?_, ?_, ?_, ?_, ?_⟩
      all_goals (simp only [blk_drew, blk_alloc, sz_alloc, ↓IntWalk.iteOmega] <;> rfl)
  case rest =>
    obtain ⟨b, gv, gu, gp, gi, rfl, hwc, hb, hv, hu, hp, hi⟩ := hcut
    have hsz := size_ex (ex_trans (by with_reducible repeat (first | exact ex_refl _ | exact ex_more | apply ex_alloc | apply ex_plus | apply ex_drew | apply ex_drewN | (apply ex_on; assumption))) hwc : ∃ y, wc = plus w1 y)
    have d0 := cell_ex (ex_trans (by with_reducible repeat (first | exact ex_refl _ | exact ex_more | apply ex_alloc | apply ex_plus | apply ex_drew | apply ex_drewN | (apply ex_on; assumption))) hwc : ∃ y, wc = plus w1 y) c0
    have d1 := cell_ex (ex_trans (by with_reducible repeat (first | exact ex_refl _ | exact ex_more | apply ex_alloc | apply ex_plus | apply ex_drew | apply ex_drewN | (apply ex_on; assumption))) hwc : ∃ y, wc = plus w1 y) c1
    have d2 := cell_ex (ex_trans (by with_reducible repeat (first | exact ex_refl _ | exact ex_more | apply ex_alloc | apply ex_plus | apply ex_drew | apply ex_drewN | (apply ex_on; assumption))) hwc : ∃ y, wc = plus w1 y) c2
    have d3 := cell_ex (ex_trans (by with_reducible repeat (first | exact ex_refl _ | exact ex_more | apply ex_alloc | apply ex_plus | apply ex_drew | apply ex_drewN | (apply ex_on; assumption))) hwc : ∃ y, wc = plus w1 y) c3
    have d4 := cell_ex (ex_trans (by with_reducible repeat (first | exact ex_refl _ | exact ex_more | apply ex_alloc | apply ex_plus | apply ex_drew | apply ex_drewN | (apply ex_on; assumption))) hwc : ∃ y, wc = plus w1 y) c4
    have d5 := cell_ex (ex_trans (by with_reducible repeat (first | exact ex_refl _ | exact ex_more | apply ex_alloc | apply ex_plus | apply ex_drew | apply ex_drewN | (apply ex_on; assumption))) hwc : ∃ y, wc = plus w1 y) c5
    have b0 := cell_blk (i := 0) hb rfl
    have b1 := cell_blk (i := 1) hb rfl
    have b2 := cell_blk (i := 2) hb rfl
    have hblt := blk_lt hb
    have hM : MeshAt wc ⟨some ⟨gv, 0, none⟩, 3, 3, some ⟨gu, 0, none⟩, 3, 3, some ⟨gp, 0, none⟩, 1, 1⟩ [⟨2, some ⟨gi, 0, none⟩, 3, 3⟩] ⟨[zeroV, zeroV, zeroV], [(0, 0), (0, 0), (0, 0)], [⟨2, [0, 1, 3]⟩]⟩ :=
      ⟨show 3 ≤ 9223372036854775807 by decide, show 3 ≤ 9223372036854775807 by decide, show 1 ≤ 9223372036854775807 by decide, (fun h => by cases h), (fun h => by cases h), (fun h => by cases h), lay_blk hv rfl rfl, lay_blk hu rfl rfl, lay_blk hp rfl rfl, rfl, fun k hk => by
        obtain rfl : k = 0 := by simpa using hk
        exact ⟨rfl, by decide, by decide, show 3 ≤ 9223372036854775807 by decide, (fun h => by cases h), lay_blk hi rfl rfl⟩⟩
    have hN : ∀ w', MeshAt w' ⟨none, 0, 0, none, 0, 0, none, 0, 0⟩ [] ⟨[], [], []⟩ := fun w' =>
      ⟨by decide, by decide, by decide, (fun _ => ⟨rfl, rfl⟩), (fun _ => ⟨rfl, rfl⟩), (fun _ => ⟨rfl, rfl⟩), Lay.nil, Lay.nil, Lay.nil, rfl, fun k hk => by simp at hk⟩
    clear hb hv hu hp hi hc1
    go_wp2_with (first | (go_at_call 10; refine (plus_post (alive_calls _)).mono ?_; rintro e w' ⟨rfl, nx, rfl⟩) | (go_at_call 11; (first | (refine (plus_post (check_any _ _ _ _ _ _ _ _ _ [] _ 40 ?_)).mono ?_; exact .inr ⟨_, _, hM.ex (by with_reducible repeat (first | exact ex_refl _ | exact ex_more | apply ex_alloc | apply ex_plus | apply ex_drew | apply ex_drewN | (apply ex_on; assumption))), by decide⟩) | (refine (plus_post (check_any _ _ _ _ _ _ _ _ _ [] _ 0 ?_)).mono ?_; exact .inr ⟨_, _, hN _, by decide⟩) | (refine (plus_post (check_any _ _ _ _ _ _ _ _ _ [] _ 4 ?_)).mono ?_; exact .inl ⟨by decide, rfl⟩)); rintro e w' ⟨rfl, nx, rfl⟩))
    go_ret
    exact ⟨rfl, below_ex (by with_reducible repeat (first | exact ex_refl _ | exact ex_more | apply ex_alloc | apply ex_plus | apply ex_drew | apply ex_drewN | (apply ex_on; assumption)))⟩

set_option maxRecDepth 100000 in
theorem meshNames_lifted (os : Os) (started : os.Started) (H : Type) (enc : TypeId × Value → H) :
    ReturnsInHanded {} Try.checked os 3 .any (Rows.meshNamesSpec.pre6 enc Try.prog Try.f3 Rows.meshNamesRow.domain false) (Rows.meshNamesSpec.post enc Try.prog Try.f3 false true false false) := by
  refine returnsInHanded_of_change (C := Try.checked) own started (by kernel_rfl) Try.func3
    (ChangeSpec.witness6 (enc := enc) (C := Try.checked) false ⟨#[], #[], []⟩ 8 (by kernel_rfl) (by kernel_rfl) (by kernel_rfl) (by kernel_rfl)) ?_
  intro W base args ds gs before hval0 hW hcnd _
  have hval : ∀ (j : Nat) t v, Try.f3.params[j]? = some t → args[j]? = some v → Value.okWide Try.prog W .any base t v := hval0
  have hW' := hW
  obtain ⟨p, q, hA0, hV, rfl, hfz, hnd⟩ := hW
  have hA : DataW.TrodAll enc Try.prog W 0 (fun _ => true) true Try.f3.params.toList args.toList ds p := hA0
  rw [Try.params3] at hA hval
  obtain ⟨hargs, rfl, rfl⟩ := trodAll_nil hA
  obtain rfl : args = #[] := by cases args; simp_all
  refine (meshNames_walk   W ).mono fun e W' ⟨he, hb⟩ => ?_
  exact ⟨_, he, law_post laidOut Try.underlying4 rfl (by kernel_rfl) (by kernel_rfl) (fun ds h => match ds, h with | [], _ => rfl) hW' hb⟩

theorem meshNames_holds : Rows.MeshNamesSaid :=
  OpenClaim.holds_of_wide 3 Try.f3 rfl rfl rfl rfl rfl rfl rfl ⟨rfl, rfl, rfl, rfl, rfl⟩ rfl rfl rfl rfl rfl (by kernel_rfl) Try.func3 (by kernel_rfl)
    (of_decide_eq_true (by kernel_rfl)) (by unfold Func.isWrapper; first | (rw [if_pos (by decide +kernel)]; kernel_rfl) | (rw [if_neg (by decide +kernel)]; exact ⟨rfl, rfl⟩))
    (fun os started H enc _ => meshNames_lifted os started H enc)
#print axioms meshNames_holds
end Go.Proofs.Ytkiahgkfgcjkgaa
