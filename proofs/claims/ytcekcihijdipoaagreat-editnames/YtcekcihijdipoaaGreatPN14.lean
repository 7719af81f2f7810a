/- A pack of texts: Arena9, Rel5. -/
import Derived.Deep.DeepCutAuto
import Derived.Test.YtcekcihijdipoaaGreatPN9
import Derived.Test.YtcekcihijdipoaaGreatPN3
namespace Go.Proofs.YtcekcihijdipoaaGreat

section


open Go.RowKit Go.ChangeShapes Go.WideShapes Go.ChangeAt

set_option linter.unusedSimpArgs false

set_option linter.unusedVariables false

attribute [local go_sem] plus_size plus_drew dn_set dn_alloc dn_plus plus_dn cell_plus frozen_plus set_plus cell_alloc frozen_alloc set_alloc

def l12S (i : Nat) : List Nat := match i with | 0 => [55] | 1 => [56] | 4 => [4] | _ => []

def l12Φ (g1 m c1 k : Nat) (gn : Int) (b1 : Nat) (o1 : Obj) (b2 : Nat) (o2 : Obj) (i : Nat) (t : Nat → Value) (w' : World) : Prop := match i with
  | 0 => t 55 = .agg #[.slice (some ⟨g1, 0, none⟩) m c1]
  | 1 => t 56 = .agg #[.int .i64 k, .int .i64 gn]
  | 2 => w'.heap[b1]? = some o1
  | 3 => w'.heap[b2]? = some o2
  | 4 => t 4 = .int .i64 0
  | _ => True

theorem l12Φ_mono (g1 m c1 k : Nat) (gn : Int) (b1 : Nat) (o1 : Obj) (b2 : Nat) (o2 : Obj) : ∀ i t t' w w', l12Φ g1 m c1 k gn b1 o1 b2 o2 i t w → (∀ s ∈ l12S i, t' s = t s) → Two b1 o1 b2 o2 w w' → l12Φ g1 m c1 k gn b1 o1 b2 o2 i t' w' := by
  intro i t t' w w' h hs' ht
  match i with
  | 0 => exact (hs' 55 (by decide)).trans h
  | 1 => exact (hs' 56 (by decide)).trans h
  | 2 => exact (two_one ht h).elim id id
  | 3 => exact (two_two ht h).elim id id
  | 4 => exact (hs' 4 (by decide)).trans h
  | i + 5 => trivial

set_option maxRecDepth 100000 in
set_option maxHeartbeats 4000000 in
theorem lmake_calls (ao : Option Addr) (n cap : Nat) (l : List Sl) (w : World) (hl : Lay fS w ao n l) (hn : n ≤ 1000) :
    Calls Tryz.prog 161 #[.agg #[.slice ao n cap]] w fun e w' => RetM w (mkRes l) (mkS l) (mkG l) (mkErr l) e w' := by
  have hlen := hl.len
  have hmf : ∀ (fn : Fn) (first cap : Array Value) (w : World), (Instr.makeFunc fn first cap).run Tryz.prog w = .ok (.func fn first cap) w := fun _ _ _ _ => rfl
  cases ho : arOk l
  · have hC : allErr l = 8 := by rw [allErr, ho]; rfl
    have he : mkErr l = 8 := by rw [mkErr, ho]; rfl
    rw [mkS, mkG, mkRes, he]
    go_enter Tryz.func161, Tryz.ntmps161
    go_wp2_with (go_at_call 128; refine (plus_post (lcheck_calls _ _ _ l _ (hl.ex sk0) (by omega))).mono ?_; rintro e w' ⟨rfl, nx, rfl⟩; rw [hC])
    exact bodyPost_ret (v := .tuple #[.agg #[.slice none 0 0], .agg #[.int .i64 0, .int .i64 0], .int .i64 8]) (by simp [results, Tryz.results161, go_sem, ↓IntWalk.iteOmega]) rfl ⟨none, 0, rfl, sk0, own_nil⟩
  have hC : allErr l = 0 := by rw [allErr, ho]; rfl
  have h128 := arOk_len ho
  have hfl := freeAt_le l
  obtain ⟨k, hfa⟩ : ∃ k, freeAt l = k := ⟨_, rfl⟩
  by_cases hkl : k < n
  · have he : mkErr l = 0 := by rw [mkErr, if_pos ho, if_pos (by omega)]
    have hml : mkList l = l.set k ⟨(nth dSl l k).gen + 1, true⟩ := by rw [mkList, if_pos (by omega), hfa]
    have hmg : mkGen l = (nth dSl l k).gen + 1 := by rw [mkGen, if_pos (by omega), hfa]
    have hmS : mkSlot l = k := by rw [mkSlot, hfa]
    have hge := arOk_at ho (k := k) (by omega)
    have i1 : ¬ (k : Int) = 128 := by omega
    have d1 : ((k : Int) == 128) = false := by rw [beq_eq_false_iff_ne]; exact i1
    have i2 : ¬ (k : Int) = (n : Int) := by omega
    have d2 : ((k : Int) == (n : Int)) = false := by rw [beq_eq_false_iff_ne]; exact i2
    have iwg : IntKind.i64.wrap ((nth dSl l k).gen + 1) = (nth dSl l k).gen + 1 := wrap_le (by omega)
    go_enter Tryz.func161, Tryz.ntmps161
    go_upto_region 10 with (first | (go_at_call 128; refine (plus_post (lcheck_calls _ _ _ l _ (hl.ex sk0) (by omega))).mono ?_; rintro e w' ⟨rfl, nx, rfl⟩; rw [hC]) | (go_at_call 177; refine (plus_post (lfirst_calls _ _ _ l _ (hl.ex sk0) (by omega))).mono ?_; rintro e w' ⟨rfl, nf, rfl⟩; rw [hfa]) | (go_at_call 81; refine (ltwin_calls _ _ _ l _ (hl.ex sk0) (by omega)).mono ?_; rintro e w1 ⟨a1, c1, rfl, hw1, o1⟩; have hr1 : w1.heap[w.heap.size + 1]? = some (.cells #[.slice none 0 0] 24) := blk_ex (w := (w.alloc (.cells #[.slice ao n cap] 24)).alloc (.cells #[.slice none 0 0] 24)) sn0 (by rw [blk_alloc, if_pos (by simp [go_sem])]); have hr2 : w1.heap[w.heap.size + 1 + 1]? = some (.cells #[.int .i64 0, .int .i64 0] 32) := blk_ex (w := ((w.alloc (.cells #[.slice ao n cap] 24)).alloc (.cells #[.slice none 0 0] 24)).alloc (.cells #[.int .i64 0, .int .i64 0] 32)) sn0 (by rw [blk_alloc, if_pos (by simp [go_sem])]); have hrl := blk_lt hr2))
    obtain ⟨g1, cur0, rfl, _, _, _⟩ := o1.blk (by omega)
    have hq : (w1.alloc (.cells #[.slice (some ⟨g1, 0, none⟩) n c1] 24)).heap[w1.heap.size]? = some (.cells #[.slice (some ⟨g1, 0, none⟩) n c1] 24) := by rw [blk_alloc, if_pos rfl]
    have hr1' := blk_ex (ex_alloc (o := (.cells #[.slice (some ⟨g1, 0, none⟩) n c1] 24)) (ex_refl w1)) hr1
    have hr2' := blk_ex (ex_alloc (o := (.cells #[.slice (some ⟨g1, 0, none⟩) n c1] 24)) (ex_refl w1)) hr2
    have o2 := (o1.ex (ex_alloc (o := (.cells #[.slice (some ⟨g1, 0, none⟩) n c1] 24)) (ex_refl w1))).base (T' := w) (by simp [go_sem]; omega)
    have hx2 : ∃ y, w1.alloc (.cells #[.slice (some ⟨g1, 0, none⟩) n c1] 24) = plus w y := sn0
    clear hr1 hr2 o1
    generalize w1.alloc (.cells #[.slice (some ⟨g1, 0, none⟩) n c1] 24) = w2 at *
    have hKM : k < n := hkl
    have iK : (k : Int) < ((n : Nat) : Int) := by omega
    obtain ⟨_, cur, eqa, hgw, hb1, _⟩ := o2.blk (by omega)
    cases eqa
    obtain ⟨_, _, eqa, hlt1, hc1⟩ := o2.lay.some (by omega)
    cases eqa
    obtain ⟨x0, x1⟩ := cellS o2.1 hc1 (k := k) hKM
    rw [Nat.zero_add] at x0 x1
    have y0 := cell_blk (i := 0) hq rfl
    have z0 := frozen_blk (i := k * 2) hb1
    have z1 := frozen_blk (i := k * 2 + 1) hb1
    have hlq := blk_lt hq
    have n1 : g1 ≠ w.heap.size + 1 := by
      intro e0
      rw [e0, hr1'] at hb1
      cases hb1
    have n2 : g1 ≠ w.heap.size + 1 + 1 := by
      intro e0
      rw [e0, hr2'] at hb1
      cases hb1
    have nq : g1 ≠ w1.heap.size := by
      intro e0
      rw [e0, hq] at hb1
      cases hb1
    go_wp2
    refine region_tail 6 (by kernel_rfl) (by kernel_rfl) ?_
    simp only [List.take_succ_cons, List.take_zero, List.drop_succ_cons, List.drop_zero]
    (repeat (go_big_quiet_step ((go_at_call 168; exact plus_of (lslotOf_calls _ _ _)))))
    refine wpQuiet_nil ?_
    rintro _ ⟨x2, rfl⟩
    go_wp2
    have o3 := (o2.set_self (u := .int .i64 (((nth dSl l k).gen + 1))) k 0 ⟨((nth dSl l k).gen + 1), (nth dSl l k).live⟩ dSl hKM fS_c (by decide) rfl).set_self (u := .bool true) k 1 ⟨((nth dSl l k).gen + 1), true⟩ dSl hKM fS_c (by decide) (by rw [nth_set' (by rw [o2.1]; exact hKM), if_pos rfl]; rfl)
    rw [List.set_set, Nat.add_zero] at o3
    have r1 : ((w2.setCell ⟨g1, k * 2, none⟩ (.int .i64 ((nth dSl l k).gen + 1))).setCell ⟨g1, k * 2 + 1, none⟩ (.bool true)).heap[w.heap.size + 1]? = _ := (blk_set_ne n1).trans ((blk_set_ne n1).trans hr1')
    have r2 : ((w2.setCell ⟨g1, k * 2, none⟩ (.int .i64 ((nth dSl l k).gen + 1))).setCell ⟨g1, k * 2 + 1, none⟩ (.bool true)).heap[w.heap.size + 1 + 1]? = _ := (blk_set_ne n2).trans ((blk_set_ne n2).trans hr2')
    have rq : ((w2.setCell ⟨g1, k * 2, none⟩ (.int .i64 ((nth dSl l k).gen + 1))).setCell ⟨g1, k * 2 + 1, none⟩ (.bool true)).heap[w1.heap.size]? = _ := (blk_set_ne nq).trans ((blk_set_ne nq).trans hq)
    have hsz2 : ((w2.setCell ⟨g1, k * 2, none⟩ (.int .i64 ((nth dSl l k).gen + 1))).setCell ⟨g1, k * 2 + 1, none⟩ (.bool true)).heap.size = w2.heap.size := by rw [size_set, size_set]
    have hx3 : ∃ y, (w2.setCell ⟨g1, k * 2, none⟩ (.int .i64 ((nth dSl l k).gen + 1))).setCell ⟨g1, k * 2 + 1, none⟩ (.bool true) = plus w y := ex_set_new (ex_set_new hx2 hgw) hgw
    clear x0 x1 y0 z0 z1 hb1 hc1 hr1' hr2' hq o2 hx2
    generalize (w2.setCell ⟨g1, k * 2, none⟩ (.int .i64 ((nth dSl l k).gen + 1))).setCell ⟨g1, k * 2 + 1, none⟩ (.bool true) = w5 at *
    have hh : (w5.alloc (.cells #[.int .i64 k, .int .i64 ((nth dSl l k).gen + 1)] 32)).heap[w2.heap.size]? = some (.cells #[.int .i64 k, .int .i64 ((nth dSl l k).gen + 1)] 32) := by rw [blk_alloc, if_pos hsz2.symm]
    have hh' := blk_ex (ex_plus (y := x2) (ex_refl _)) hh
    have r1' := blk_ex (ex_plus (y := x2) (ex_alloc (o := (.cells #[.int .i64 k, .int .i64 ((nth dSl l k).gen + 1)] 32)) (ex_refl w5))) r1
    have r2' := blk_ex (ex_plus (y := x2) (ex_alloc (o := (.cells #[.int .i64 k, .int .i64 ((nth dSl l k).gen + 1)] 32)) (ex_refl w5))) r2
    have rq' := blk_ex (ex_plus (y := x2) (ex_alloc (o := (.cells #[.int .i64 k, .int .i64 ((nth dSl l k).gen + 1)] 32)) (ex_refl w5))) rq
    have o3' := o3.ex (ex_plus (y := x2) (ex_alloc (o := (.cells #[.int .i64 k, .int .i64 ((nth dSl l k).gen + 1)] 32)) (ex_refl w5)))
    have hx3' := ex_plus (y := x2) (ex_alloc (o := (.cells #[.int .i64 k, .int .i64 ((nth dSl l k).gen + 1)] 32)) hx3)
    clear r1 r2 rq o3 hx3 hh
    generalize plus (w5.alloc (.cells #[.int .i64 k, .int .i64 ((nth dSl l k).gen + 1)] 32)) x2 = w3 at *
    have f0 := cell_blk (i := 0) rq' rfl
    have f1 := cell_blk (i := 0) hh' rfl
    have f2 := cell_blk (i := 1) hh' rfl
    have nb : w.heap.size + 1 ≠ w.heap.size + 1 + 1 := by omega
    refine region_relG 5 l12S (l12Φ g1 (n) c1 k (((nth dSl l k).gen + 1)) (w.heap.size + 1) (.cells #[.slice (some ⟨g1, 0, none⟩) n c1] 24) (w.heap.size + 1 + 1) (.cells #[.int .i64 k, .int .i64 ((nth dSl l k).gen + 1)] 32)) (Two (w.heap.size + 1) (.cells #[.slice (some ⟨g1, 0, none⟩) n c1] 24) (w.heap.size + 1 + 1) (.cells #[.int .i64 k, .int .i64 ((nth dSl l k).gen + 1)] 32)) two_trans (two_draw _) (by kernel_rfl) (by kernel_rfl) (by decide) (l12Φ_mono _ _ _ _ _ _ _ _ _) ?steps ?fin
    case steps =>
      refine ⟨?_, ?_, ?_, ?_, ?_, trivial⟩
      · intro a w' hg hfree hdeep
        have f7' := hfree 7 (by kernel_rfl)
        have e0 := two_cell hg f0 (by omega) (by omega)
        simp only [l12Φ, got] at f7'
        simp [go_sem] at f7'
        unfold Oper.wp
        simp [go_sem, execOp, Act.eval, ↓IntWalk.iteOmega, f7', e0]
        exact ⟨_, rfl, two_refl _, by simp [l12Φ, upd]⟩
      · intro a w' hg hfree hdeep
        have f8' := hfree 8 (by kernel_rfl)
        have e1 := two_cell hg f1 (by omega) (by omega)
        have e2 := two_cell hg f2 (by omega) (by omega)
        simp only [l12Φ, got] at f8'
        simp [go_sem] at f8'
        unfold Oper.wp
        simp [go_sem, execOp, Act.eval, ↓IntWalk.iteOmega, f8', e1, e2]
        exact ⟨_, rfl, two_refl _, by simp [l12Φ, upd]⟩
      · intro a w' hg hfree hdeep
        have f2' := hfree 2 (by kernel_rfl)
        have d0 := hdeep 0 (by kernel_rfl)
        simp only [l12Φ, got] at f2' d0
        simp [go_sem] at f2'
        rcases two_one hg r1' with hb | hb
        · have c0' := cell_blk (i := 0) hb rfl; have z0' := frozen_blk (i := 0) hb
          unfold Oper.wp
          simp [go_sem, execOp, Act.eval, f2', d0, c0', z0']
          exact ⟨two_set1 nb (blk_set_eq hb), undef, (blk_set_eq hb)⟩
        · have c0' := cell_blk (i := 0) hb rfl; have z0' := frozen_blk (i := 0) hb
          unfold Oper.wp
          simp [go_sem, execOp, Act.eval, f2', d0, c0', z0']
          exact ⟨two_set1 nb (blk_set_eq hb), undef, (blk_set_eq hb)⟩
      · intro a w' hg hfree hdeep
        have f3' := hfree 3 (by kernel_rfl)
        have d1 := hdeep 1 (by kernel_rfl)
        simp only [l12Φ, got] at f3' d1
        simp [go_sem] at f3'
        rcases two_two hg r2' with hb | hb
        · have c0' := cell_blk (i := 0) hb rfl; have z0' := frozen_blk (i := 0) hb; have c1' := cell_blk (i := 1) hb rfl; have z1' := frozen_blk (i := 1) hb
          unfold Oper.wp
          simp [go_sem, execOp, Act.eval, f3', d1, c0', z0', c1', z1']
          exact ⟨two_set2 nb (blk_set_eq (blk_set_eq hb)), undef, (blk_set_eq (blk_set_eq hb))⟩
        · have c0' := cell_blk (i := 0) hb rfl; have z0' := frozen_blk (i := 0) hb; have c1' := cell_blk (i := 1) hb rfl; have z1' := frozen_blk (i := 1) hb
          unfold Oper.wp
          simp [go_sem, execOp, Act.eval, f3', d1, c0', z0', c1', z1']
          exact ⟨two_set2 nb (blk_set_eq (blk_set_eq hb)), undef, (blk_set_eq (blk_set_eq hb))⟩
      · intro a w' hg hfree hdeep
        unfold Oper.wp
        simp [go_sem, execOp, Act.eval, ↓IntWalk.iteOmega]
        exact ⟨_, rfl, two_refl _, by simp [l12Φ, upd]⟩
    case fin =>
      rintro t w4 hg hΦ
      have h9 := hΦ 2 (by decide)
      have h10 := hΦ 3 (by decide)
      have h11 := hΦ 4 (by decide)
      simp only [l12Φ] at h9 h10 h11
      have o4 := o3'.two hg r1' r2' (by decide) (by decide)
      have hx4 := two_ex hg hx3' (by omega) (by omega)
      simp only [putAll, List.take_succ_cons, List.take_zero, List.take_nil, Act.put]
      simp only [List.setIfInBounds_toArray, List.set_cons_succ, List.set_cons_zero, h11]
      simp only [List.drop_succ_cons, List.drop_zero]
      clear hΦ hg o3' hx3' f0 f1 f2 r1' r2' rq' hh'
      have c0 := cell_blk (i := 0) h9 rfl
      have c1' := cell_blk (i := 0) h10 rfl
      have c2' := cell_blk (i := 1) h10 rfl
      go_wp2
      have hpost : RetM w (mkRes l) (mkS l) (mkG l) (mkErr l) (.returned (.tuple #[.agg #[.slice (some ⟨g1, 0, none⟩) n c1], .agg #[.int .i64 k, .int .i64 ((nth dSl l k).gen + 1)], .int .i64 0])) w4 := by
        rw [mkRes, mkS, mkG, if_pos he, if_pos he, if_pos he, he, hml, hmg, hmS]
        exact ⟨some ⟨g1, 0, none⟩, c1, by rw [o4.1], hx4, by rw [o4.1]; exact o4⟩
      exact bodyPost_ret (v := .tuple #[.agg #[.slice (some ⟨g1, 0, none⟩) n c1], .agg #[.int .i64 k, .int .i64 ((nth dSl l k).gen + 1)], .int .i64 0]) (by simp [results, Tryz.results161, go_sem, c0, c1', c2']) rfl hpost
  obtain rfl : k = n := by omega
  by_cases h8 : 128 ≤ k
  · have d8 : ((k : Int) == 128) = true := by rw [beq_iff_eq]; omega
    have he : mkErr l = 9 := by rw [mkErr, if_pos ho, if_neg (by omega), if_pos (by omega)]
    rw [mkS, mkG, mkRes, he]
    go_enter Tryz.func161, Tryz.ntmps161
    go_wp2_with (first | (go_at_call 128; refine (plus_post (lcheck_calls _ _ _ l _ (hl.ex sk0) (by omega))).mono ?_; rintro e w' ⟨rfl, nx, rfl⟩; rw [hC]) | (go_at_call 177; refine (plus_post (lfirst_calls _ _ _ l _ (hl.ex sk0) (by omega))).mono ?_; rintro e w' ⟨rfl, nf, rfl⟩; rw [hfa]))
    exact bodyPost_ret (v := .tuple #[.agg #[.slice none 0 0], .agg #[.int .i64 0, .int .i64 0], .int .i64 9]) (by simp [results, Tryz.results161, go_sem, ↓IntWalk.iteOmega]) rfl ⟨none, 0, rfl, sk0, own_nil⟩
  · have i8 : ¬ (k : Int) = 128 := by omega
    have d8 : ((k : Int) == 128) = false := by rw [beq_eq_false_iff_ne]; exact i8
    have he : mkErr l = 0 := by rw [mkErr, if_pos ho, if_neg (by omega), if_neg (by omega)]
    have hml : mkList l = (l ++ [dSl]).set k ⟨1, true⟩ := by rw [mkList, if_neg (by omega), List.set_append_right _ _ (by omega), hlen, Nat.sub_self]; rfl
    have hmg : mkGen l = 1 := by rw [mkGen, if_neg (by omega)]
    have hmS : mkSlot l = k := by rw [mkSlot, hfa]
    go_enter Tryz.func161, Tryz.ntmps161
    go_upto_region 10 with (first | (go_at_call 128; refine (plus_post (lcheck_calls _ _ _ l _ (hl.ex sk0) (by omega))).mono ?_; rintro e w' ⟨rfl, nx, rfl⟩; rw [hC]) | (go_at_call 177; refine (plus_post (lfirst_calls _ _ _ l _ (hl.ex sk0) (by omega))).mono ?_; rintro e w' ⟨rfl, nf, rfl⟩; rw [hfa]) | (go_at_call 81; refine (ltwin_calls _ _ _ l _ (hl.ex sk0) (by omega)).mono ?_; rintro e w1 ⟨a1, c1, rfl, hw1, o1⟩; have hr1 : w1.heap[w.heap.size + 1]? = some (.cells #[.slice none 0 0] 24) := blk_ex (w := (w.alloc (.cells #[.slice ao k cap] 24)).alloc (.cells #[.slice none 0 0] 24)) sn0 (by rw [blk_alloc, if_pos (by simp [go_sem])]); have hr2 : w1.heap[w.heap.size + 1 + 1]? = some (.cells #[.int .i64 0, .int .i64 0] 32) := blk_ex (w := ((w.alloc (.cells #[.slice ao k cap] 24)).alloc (.cells #[.slice none 0 0] 24)).alloc (.cells #[.int .i64 0, .int .i64 0] 32)) sn0 (by rw [blk_alloc, if_pos (by simp [go_sem])]); have hrl := blk_lt hr2) | (at_builtin; refine wpList_append_lay2 (T := w) rfl _ _ rfl kinS fS_c fS_1 rfl sn0 ((o1.base (T' := w) (by simp [go_sem]; omega)).ex sk0) rfl (l2 := [dSl]) ⟨rfl, .inr ⟨_, 0, rfl, by (simp [go_sem]; try omega), fun jj u hu => by match jj, hu with | 0, hu => (simp [fS, dSl] at hu; subst hu; simp [go_sem, ↓IntWalk.iteOmega]) | 1, hu => (simp [fS, dSl] at hu; subst hu; simp [go_sem, ↓IntWalk.iteOmega]) | jj + 2, hu => simp [fS, dSl] at hu⟩⟩ (by omega) (by decide) ?_; intro a4 c4 w4 o4 hx4 hgr4; have bx := grown_blk (g := w1.heap.size) hgr4 ((o1.base (T' := w) (by simp [go_sem]; omega)).ex sk0) (blk_ex (w := w1.alloc (.cells #[.slice a1 k c1] 24)) sk0 (by rw [blk_alloc, if_pos rfl])) (by decide); have b1 := grown_blk hgr4 ((o1.base (T' := w) (by simp [go_sem]; omega)).ex sk0) (blk_ex sk0 hr1) (by decide); have b2 := grown_blk hgr4 ((o1.base (T' := w) (by simp [go_sem]; omega)).ex sk0) (blk_ex sk0 hr2) (by decide); have u3 := cell_blk (i := 0) bx rfl; have v3 := frozen_blk (i := 0) bx; have lx := blk_lt bx; have l2 := blk_lt b2))
    obtain ⟨g1, cur0, rfl, _, hb4, _⟩ := o4.blk (by omega)
    have n4 : g1 ≠ w1.heap.size := by
      intro e0
      rw [e0, bx] at hb4
      cases hb4
    have hq : (w4.setCell ⟨w1.heap.size, 0, none⟩ (.slice (some ⟨g1, 0, none⟩) (k + 1) c4)).heap[w1.heap.size]? = some (.cells #[.slice (some ⟨g1, 0, none⟩) (k + 1) c4] 24) := blk_set_eq bx
    have hr1' : (w4.setCell ⟨w1.heap.size, 0, none⟩ (.slice (some ⟨g1, 0, none⟩) (k + 1) c4)).heap[w.heap.size + 1]? = _ := (blk_set_ne (by omega)).trans b1
    have hr2' : (w4.setCell ⟨w1.heap.size, 0, none⟩ (.slice (some ⟨g1, 0, none⟩) (k + 1) c4)).heap[w.heap.size + 1 + 1]? = _ := (blk_set_ne (by omega)).trans b2
    have o2 := o4.set_other (i := 0) (u := .slice (some ⟨g1, 0, none⟩) (k + 1) c4) bx (by decide)
    have hx2 : ∃ y, w4.setCell ⟨w1.heap.size, 0, none⟩ (.slice (some ⟨g1, 0, none⟩) (k + 1) c4) = plus w y := ex_set_new hx4 (by omega)
    clear u3 v3 bx b1 b2 o4 hx4 hgr4 hb4 n4
    generalize w4.setCell ⟨w1.heap.size, 0, none⟩ (.slice (some ⟨g1, 0, none⟩) (k + 1) c4) = w2 at *
    have hKM : k < k + 1 := Nat.lt_succ_self k
    have iK : (k : Int) < (((k + 1) : Nat) : Int) := by omega
    obtain ⟨_, cur, eqa, hgw, hb1, _⟩ := o2.blk (by omega)
    cases eqa
    obtain ⟨_, _, eqa, hlt1, hc1⟩ := o2.lay.some (by omega)
    cases eqa
    obtain ⟨x0, x1⟩ := cellS o2.1 hc1 (k := k) hKM
    rw [Nat.zero_add] at x0 x1
    rw [nth_append_right (by omega), show k - l.length = 0 by omega] at x0 x1
    simp only [nth, dSl, List.getD_cons_zero] at x0 x1
    have y0 := cell_blk (i := 0) hq rfl
    have z0 := frozen_blk (i := k * 2) hb1
    have z1 := frozen_blk (i := k * 2 + 1) hb1
    have hlq := blk_lt hq
    have n1 : g1 ≠ w.heap.size + 1 := by
      intro e0
      rw [e0, hr1'] at hb1
      cases hb1
    have n2 : g1 ≠ w.heap.size + 1 + 1 := by
      intro e0
      rw [e0, hr2'] at hb1
      cases hb1
    have nq : g1 ≠ w1.heap.size := by
      intro e0
      rw [e0, hq] at hb1
      cases hb1
    go_wp2
    refine region_tail 6 (by kernel_rfl) (by kernel_rfl) ?_
    simp only [List.take_succ_cons, List.take_zero, List.drop_succ_cons, List.drop_zero]
    (repeat (go_big_quiet_step ((go_at_call 168; exact plus_of (lslotOf_calls _ _ _)))))
    refine wpQuiet_nil ?_
    rintro _ ⟨x2, rfl⟩
    go_wp2
    have o3 := (o2.set_self (u := .int .i64 (1)) k 0 ⟨1, (nth dSl (l ++ [dSl]) k).live⟩ dSl hKM fS_c (by decide) rfl).set_self (u := .bool true) k 1 ⟨1, true⟩ dSl hKM fS_c (by decide) (by rw [nth_set' (by rw [o2.1]; exact hKM), if_pos rfl]; rfl)
    rw [List.set_set, Nat.add_zero] at o3
    have r1 : ((w2.setCell ⟨g1, k * 2, none⟩ (.int .i64 1)).setCell ⟨g1, k * 2 + 1, none⟩ (.bool true)).heap[w.heap.size + 1]? = _ := (blk_set_ne n1).trans ((blk_set_ne n1).trans hr1')
    have r2 : ((w2.setCell ⟨g1, k * 2, none⟩ (.int .i64 1)).setCell ⟨g1, k * 2 + 1, none⟩ (.bool true)).heap[w.heap.size + 1 + 1]? = _ := (blk_set_ne n2).trans ((blk_set_ne n2).trans hr2')
    have rq : ((w2.setCell ⟨g1, k * 2, none⟩ (.int .i64 1)).setCell ⟨g1, k * 2 + 1, none⟩ (.bool true)).heap[w1.heap.size]? = _ := (blk_set_ne nq).trans ((blk_set_ne nq).trans hq)
    have hsz2 : ((w2.setCell ⟨g1, k * 2, none⟩ (.int .i64 1)).setCell ⟨g1, k * 2 + 1, none⟩ (.bool true)).heap.size = w2.heap.size := by rw [size_set, size_set]
    have hx3 : ∃ y, (w2.setCell ⟨g1, k * 2, none⟩ (.int .i64 1)).setCell ⟨g1, k * 2 + 1, none⟩ (.bool true) = plus w y := ex_set_new (ex_set_new hx2 hgw) hgw
    clear x0 x1 y0 z0 z1 hb1 hc1 hr1' hr2' hq o2 hx2
    generalize (w2.setCell ⟨g1, k * 2, none⟩ (.int .i64 1)).setCell ⟨g1, k * 2 + 1, none⟩ (.bool true) = w5 at *
    have hh : (w5.alloc (.cells #[.int .i64 k, .int .i64 1] 32)).heap[w2.heap.size]? = some (.cells #[.int .i64 k, .int .i64 1] 32) := by rw [blk_alloc, if_pos hsz2.symm]
    have hh' := blk_ex (ex_plus (y := x2) (ex_refl _)) hh
    have r1' := blk_ex (ex_plus (y := x2) (ex_alloc (o := (.cells #[.int .i64 k, .int .i64 1] 32)) (ex_refl w5))) r1
    have r2' := blk_ex (ex_plus (y := x2) (ex_alloc (o := (.cells #[.int .i64 k, .int .i64 1] 32)) (ex_refl w5))) r2
    have rq' := blk_ex (ex_plus (y := x2) (ex_alloc (o := (.cells #[.int .i64 k, .int .i64 1] 32)) (ex_refl w5))) rq
    have o3' := o3.ex (ex_plus (y := x2) (ex_alloc (o := (.cells #[.int .i64 k, .int .i64 1] 32)) (ex_refl w5)))
    have hx3' := ex_plus (y := x2) (ex_alloc (o := (.cells #[.int .i64 k, .int .i64 1] 32)) hx3)
    clear r1 r2 rq o3 hx3 hh
    generalize plus (w5.alloc (.cells #[.int .i64 k, .int .i64 1] 32)) x2 = w3 at *
    have f0 := cell_blk (i := 0) rq' rfl
    have f1 := cell_blk (i := 0) hh' rfl
    have f2 := cell_blk (i := 1) hh' rfl
    have nb : w.heap.size + 1 ≠ w.heap.size + 1 + 1 := by omega
    refine region_relG 5 l12S (l12Φ g1 ((k + 1)) c4 k (1) (w.heap.size + 1) (.cells #[.slice (some ⟨g1, 0, none⟩) (k + 1) c4] 24) (w.heap.size + 1 + 1) (.cells #[.int .i64 k, .int .i64 1] 32)) (Two (w.heap.size + 1) (.cells #[.slice (some ⟨g1, 0, none⟩) (k + 1) c4] 24) (w.heap.size + 1 + 1) (.cells #[.int .i64 k, .int .i64 1] 32)) two_trans (two_draw _) (by kernel_rfl) (by kernel_rfl) (by decide) (l12Φ_mono _ _ _ _ _ _ _ _ _) ?steps ?fin
    case steps =>
      refine ⟨?_, ?_, ?_, ?_, ?_, trivial⟩
      · intro a w' hg hfree hdeep
        have f7' := hfree 7 (by kernel_rfl)
        have e0 := two_cell hg f0 (by omega) (by omega)
        simp only [l12Φ, got] at f7'
        simp [go_sem] at f7'
        unfold Oper.wp
        simp [go_sem, execOp, Act.eval, ↓IntWalk.iteOmega, f7', e0]
        exact ⟨_, rfl, two_refl _, by simp [l12Φ, upd]⟩
      · intro a w' hg hfree hdeep
        have f8' := hfree 8 (by kernel_rfl)
        have e1 := two_cell hg f1 (by omega) (by omega)
        have e2 := two_cell hg f2 (by omega) (by omega)
        simp only [l12Φ, got] at f8'
        simp [go_sem] at f8'
        unfold Oper.wp
        simp [go_sem, execOp, Act.eval, ↓IntWalk.iteOmega, f8', e1, e2]
        exact ⟨_, rfl, two_refl _, by simp [l12Φ, upd]⟩
      · intro a w' hg hfree hdeep
        have f2' := hfree 2 (by kernel_rfl)
        have d0 := hdeep 0 (by kernel_rfl)
        simp only [l12Φ, got] at f2' d0
        simp [go_sem] at f2'
        rcases two_one hg r1' with hb | hb
        · have c0' := cell_blk (i := 0) hb rfl; have z0' := frozen_blk (i := 0) hb
          unfold Oper.wp
          simp [go_sem, execOp, Act.eval, f2', d0, c0', z0']
          exact ⟨two_set1 nb (blk_set_eq hb), undef, (blk_set_eq hb)⟩
        · have c0' := cell_blk (i := 0) hb rfl; have z0' := frozen_blk (i := 0) hb
          unfold Oper.wp
          simp [go_sem, execOp, Act.eval, f2', d0, c0', z0']
          exact ⟨two_set1 nb (blk_set_eq hb), undef, (blk_set_eq hb)⟩
      · intro a w' hg hfree hdeep
        have f3' := hfree 3 (by kernel_rfl)
        have d1 := hdeep 1 (by kernel_rfl)
        simp only [l12Φ, got] at f3' d1
        simp [go_sem] at f3'
        rcases two_two hg r2' with hb | hb
        · have c0' := cell_blk (i := 0) hb rfl; have z0' := frozen_blk (i := 0) hb; have c1' := cell_blk (i := 1) hb rfl; have z1' := frozen_blk (i := 1) hb
          unfold Oper.wp
          simp [go_sem, execOp, Act.eval, f3', d1, c0', z0', c1', z1']
          exact ⟨two_set2 nb (blk_set_eq (blk_set_eq hb)), undef, (blk_set_eq (blk_set_eq hb))⟩
        · have c0' := cell_blk (i := 0) hb rfl; have z0' := frozen_blk (i := 0) hb; have c1' := cell_blk (i := 1) hb rfl; have z1' := frozen_blk (i := 1) hb
          unfold Oper.wp
          simp [go_sem, execOp, Act.eval, f3', d1, c0', z0', c1', z1']
          exact ⟨two_set2 nb (blk_set_eq (blk_set_eq hb)), undef, (blk_set_eq (blk_set_eq hb))⟩
      · intro a w' hg hfree hdeep
        unfold Oper.wp
        simp [go_sem, execOp, Act.eval, ↓IntWalk.iteOmega]
        exact ⟨_, rfl, two_refl _, by simp [l12Φ, upd]⟩
    case fin =>
      rintro t w4 hg hΦ
      have h9 := hΦ 2 (by decide)
      have h10 := hΦ 3 (by decide)
      have h11 := hΦ 4 (by decide)
      simp only [l12Φ] at h9 h10 h11
      have o4 := o3'.two hg r1' r2' (by decide) (by decide)
      have hx4 := two_ex hg hx3' (by omega) (by omega)
      simp only [putAll, List.take_succ_cons, List.take_zero, List.take_nil, Act.put]
      simp only [List.setIfInBounds_toArray, List.set_cons_succ, List.set_cons_zero, h11]
      simp only [List.drop_succ_cons, List.drop_zero]
      clear hΦ hg o3' hx3' f0 f1 f2 r1' r2' rq' hh'
      have c0 := cell_blk (i := 0) h9 rfl
      have c1' := cell_blk (i := 0) h10 rfl
      have c2' := cell_blk (i := 1) h10 rfl
      go_wp2
      have hpost : RetM w (mkRes l) (mkS l) (mkG l) (mkErr l) (.returned (.tuple #[.agg #[.slice (some ⟨g1, 0, none⟩) (k + 1) c4], .agg #[.int .i64 k, .int .i64 1], .int .i64 0])) w4 := by
        rw [mkRes, mkS, mkG, if_pos he, if_pos he, if_pos he, he, hml, hmg, hmS]
        exact ⟨some ⟨g1, 0, none⟩, c4, by rw [o4.1], hx4, by rw [o4.1]; exact o4⟩
      exact bodyPost_ret (v := .tuple #[.agg #[.slice (some ⟨g1, 0, none⟩) (k + 1) c4], .agg #[.int .i64 k, .int .i64 1], .int .i64 0]) (by simp [results, Tryz.results161, go_sem, c0, c1', c2']) rfl hpost

end

section


open Go.RowKit

section

variable {P : Program} {md : Region.Mode} {ops : Array Oper} {Q : Exit → Act → World → Prop}

variable {n : Nat} {S : Nat → List Nat} {Φ : Nat → (Nat → Value) → World → Prop} {a0 : Act} {w0 : World}

def Steps5 (P : Program) (md : Region.Mode) (ops : Array Oper) (n : Nat) (Φ : Nat → (Nat → Value) → World → Prop) (a0 : Act) (w0 : World) (Q : Exit → Act → World → Prop) : List Oper → Nat → Prop
  | [], _ => True
  | o :: r, i => (∀ a w, (∃ x, w = plus w0 x) → (∀ s, ((ops.toList.take n).any fun o => o.dst == some s) = false → got a s = got a0 s) → (∀ j, deepB md ops ops.size 8 i j = true → Φ j (got a) w) →
      o.wp P a w (fun a' w' => ∃ v, a' = a.put o.dst v ∧ (∃ x, w' = plus w x) ∧ Φ i (upd (got a) o.dst v) w') Q) ∧ Steps5 P md ops n Φ a0 w0 Q r (i + 1)

theorem steps_at5 : ∀ (l : List Oper) (k : Nat), Steps5 P md ops n Φ a0 w0 Q l k → ∀ (i : Nat) (o : Oper), l[i]? = some o → ∀ a w, (∃ x, w = plus w0 x) → (∀ s, ((ops.toList.take n).any fun o => o.dst == some s) = false → got a s = got a0 s) → (∀ j, deepB md ops ops.size 8 (k + i) j = true → Φ j (got a) w) →
      o.wp P a w (fun a' w' => ∃ v, a' = a.put o.dst v ∧ (∃ x, w' = plus w x) ∧ Φ (k + i) (upd (got a) o.dst v) w') Q
  | [], _, _, i, o, ho => by simp at ho
  | o :: r, k, h, 0, o', ho => by
    simp only [List.getElem?_cons_zero, Option.some.injEq] at ho
    subst ho
    exact h.1
  | o :: r, k, h, i + 1, o', ho => by
    have := steps_at5 r (k + 1) h.2 i o' (by simpa using ho)
    rwa [show k + 1 + i = k + (i + 1) by omega] at this

theorem free_of5 {a : Act} {L : Array Bool} {w : World} (h : RelInv2 md ops n Φ a0 w0 L a w) : ∀ s, ((ops.toList.take n).any fun o => o.dst == some s) = false → got a s = got a0 s := by
  intro s hs
  refine h.free s fun j o ho hL hd => ?_
  have hjn : j < n := by
    rcases Nat.lt_or_ge j n with h' | h'
    · exact h'
    · rw [h.front j h'] at hL; cases hL
  have : ((ops.toList.take n).any fun o => o.dst == some s) = true := by
    rw [List.any_eq_true]
    refine ⟨o, ?_, by simp [hd]⟩
    have h2 : (ops.toList.take n)[j]? = some o := by rw [List.getElem?_take_of_lt hjn]; simpa using ho
    exact List.mem_of_getElem? h2
  rw [hs] at this
  cases this

theorem region_relT {id : Nat} {l : List Oper} (n : Nat) (S : Nat → List Nat) (Φ : Nat → (Nat → Value) → World → Prop) {a : Act} {w : World} (hm : P.follows .mixedOrders = true) (hB : relB2 .any l.toArray n S a.tmps.size = true) (hn : n ≤ l.length)
    (hmono : ∀ i t t' w x, Φ i t w → (∀ s ∈ S i, t' s = t s) → Φ i t' (plus w x))
    (hst : Steps5 P .any l.toArray n Φ a w Q (l.take n) 0)
    (hend : ∀ t w', (∃ x, w' = plus w x) → (∀ j, j < n → Φ j t w') → wpList P l.toArray Q (l.drop n) (putAll t (l.take n) a) w') : (Code.region id l.toArray true).wp P Q a w := by
  have hF := relB_facts2 hB
  have hsize : l.toArray.size = l.length := by simp
  have hrest : ∀ t w', (∃ x, w' = plus w x) → (∀ j, j < n → Φ j t w') → wpOps P l.toArray Q (List.range' n (l.length - n)) (putAll t (l.take n) a) w' := by
    intro t w' h1 h2
    have h := hend t w' h1 h2
    have e := wpOps_eq_wpList (P := P) (Q := Q) (ops := l.toArray) (l.drop n) n (fun j => by simp)
    rw [List.length_drop] at e
    rw [e]
    exact h
  refine wp_region_any hm ?_
  refine wpAny_inv (I := fun L a' w' => (L.size = l.length ∧ RelInv2 .any l.toArray n Φ a w L a' w') ∨ (L.size = l.length ∧ ∃ i, n ≤ i ∧ i ≤ l.length ∧ (∀ j, L.getD j false = decide (j < i)) ∧ wpOps P l.toArray Q (List.range' i (l.length - i)) a' w')) ?_ ?_ _ _ _ _ ?_ ?_
  · have key : ∀ L a' w' i k, L.size = l.length → n ≤ k → k ≤ l.length → (∀ j, L.getD j false = decide (j < k)) → wpOps P l.toArray Q (List.range' k (l.length - k)) a' w' → i ∈ Region.ready .any l.toArray L →
        wpOp P l.toArray Q i (fun a' w' => ((L.setIfInBounds i true).size = l.length ∧ RelInv2 .any l.toArray n Φ a w (L.setIfInBounds i true) a' w') ∨ ((L.setIfInBounds i true).size = l.length ∧ ∃ k, n ≤ k ∧ k ≤ l.length ∧ (∀ j, (L.setIfInBounds i true).getD j false = decide (j < k)) ∧ wpOps P l.toArray Q (List.range' k (l.length - k)) a' w')) a' w' := by
      intro L a' w' i k hs hnk hkl hL hw hi
      obtain ⟨hiL, o, ho, hall⟩ := mem_ready.1 hi
      obtain ⟨hiL2, hiS⟩ := getD_false2 hiL
      have hik : k ≤ i := by
        rw [hL i] at hiL2
        simpa using hiL2
      obtain rfl : i = k := by
        rcases Nat.eq_or_lt_of_le hik with e | hlt
        · exact e.symm
        · exfalso
          have hd := hF.last i k (by omega) (by simp; omega) hlt
          have hS : Shut .any l.toArray l.toArray.size L := by
            intro p q hp hp2 hq
            rw [hL p] at hp2
            rw [hL q]
            obtain ⟨oj, h1, e, he, hb, hon⟩ := Region.waitsFor_spec hq
            have := hF.back p oj h1 e he hb
            simp at hp2 ⊢
            omega
          have := deep_listed hS 8 i k (fun q hq => waits_ready2 hi hq) hd
          rw [hL k] at this
          simp at this
      have e1 : List.range' i (l.length - i) = i :: List.range' (i + 1) (l.length - (i + 1)) := by
        rw [show l.length - i = (l.length - (i + 1)) + 1 by omega, List.range'_succ]
      rw [e1, wpOps_cons] at hw
      refine wpOp_mono (fun a2 w2 h2 => .inr ⟨by rw [Array.size_setIfInBounds]; exact hs, i + 1, by omega, by omega, fun j => ?_, h2⟩) hw
      by_cases e : i = j
      · subst e
        simp [hiS]
      · have h3 := hL j
        have h4 : (L.setIfInBounds i true).getD j false = L.getD j false := by simp [e]
        rw [h4, h3]
        have : (j < i) ↔ (j < i + 1) := by omega
        simp [this]
    rintro L a' w' i (⟨hs, h⟩ | ⟨hs, k, hnk, hkl, hL, hw⟩) hi
    · by_cases hin : i < n
      · obtain ⟨hiL, o, ho, hall⟩ := mem_ready.1 hi
        have hS : Shut .any l.toArray l.toArray.size L := fun j k _ hj hk => h.shut j k hj hk
        have hdl : ∀ j, deepB .any l.toArray l.toArray.size 8 i j = true → L.getD j false = true := fun j hd => deep_listed hS 8 i j (fun k hk => waits_ready2 hi hk) hd
        unfold wpOp
        simp only [ho]
        have hwt : Region.wanted o (yielded l.toArray a'.tmps) = true := by simp [Region.wanted, hF.guard i o ho]
        rw [if_pos hwt]
        left
        have hol : (l.take n)[i]? = some o := by rw [List.getElem?_take, if_pos hin]; simpa using ho
        have hw := steps_at5 (l.take n) 0 hst i o hol a' w' h.grow (free_of5 h) (fun j hd => h.rel j (hdl j (by rwa [Nat.zero_add] at hd)))
        rw [Nat.zero_add] at hw
        exact Oper.wp_mono (fun a2 w2 ⟨v, e1, e2, e3⟩ => .inl ⟨by rw [Array.size_setIfInBounds]; exact hs, rel_step2 hF hmono h hi hin ho e1 e2 e3⟩) hw
      · obtain ⟨hiL, o, ho, hall⟩ := mem_ready.1 hi
        have hil : i < l.length := by simpa using (Array.getElem?_eq_some_iff.1 ho).1
        have hS : Shut .any l.toArray l.toArray.size L := fun j k _ hj hk => h.shut j k hj hk
        have hall2 : ∀ j, j < i → L.getD j false = true := fun j hj => deep_listed hS 8 i j (fun k hk => waits_ready2 hi hk) (hF.last i j (by omega) (by simp; omega) hj)
        have hin2 : i = n := by
          rcases Nat.lt_or_ge n i with h1 | h1
          · have h2 := hall2 n h1
            rw [h.front n (Nat.le_refl _)] at h2
            cases h2
          · omega
        subst hin2
        have ha : a' = putAll (got a') (l.take i) a := by
          have hp := putAll_size (got a') (l.take i) a
          refine act_ext (h.tsz.trans hp.1.symm) (h.dfs.trans hp.2.symm) fun s hs => ?_
          rw [putAll_got _ _ _ _ (by rw [← h.tsz]; exact hs)]
          cases hany : (l.take i).any fun o => o.dst == some s with
          | true => simp
          | false =>
            simp only [Bool.false_eq_true, if_false]
            refine h.free s fun j oj hj hL hd => ?_
            have hjn : j < i := by
              rcases Nat.lt_or_ge j i with h' | h'
              · exact h'
              · rw [h.front j h'] at hL; cases hL
            have : ((l.take i).any fun o => o.dst == some s) = true := List.any_eq_true.2 ⟨oj, List.mem_of_getElem? (i := j) (by rw [List.getElem?_take, if_pos hjn]; simpa using hj), by simp [hd]⟩
            rw [hany] at this
            cases this
        have hw := hrest (got a') w' h.grow (fun j hj => h.rel j (hall2 j hj))
        rw [← ha] at hw
        refine key L a' w' i i hs (Nat.le_refl _) (by omega) (fun j => ?_) hw hi
        by_cases hj : j < i
        · rw [hall2 j hj, decide_eq_true hj]
        · rw [h.front j (by omega), decide_eq_false hj]
    · exact key L a' w' i k hs hnk hkl hL hw hi
  · rintro L a' w' (⟨hs, h⟩ | ⟨hs, k, hnk, hkl, hL, hw⟩) hr
    · have hall := all_listed2 hF (by rw [hs, hsize]) hr
      have hnl : l.length = n := by
        rcases Nat.lt_or_ge n l.length with h1 | h1
        · have := hall n (by simpa using h1)
          rw [h.front n (Nat.le_refl _)] at this
          cases this
        · omega
      have ha : a' = putAll (got a') (l.take n) a := by
        have hp := putAll_size (got a') (l.take n) a
        refine act_ext (h.tsz.trans hp.1.symm) (h.dfs.trans hp.2.symm) fun s hs => ?_
        rw [putAll_got _ _ _ _ (by rw [← h.tsz]; exact hs)]
        cases hany : (l.take n).any fun o => o.dst == some s with
        | true => simp
        | false =>
          simp only [Bool.false_eq_true, if_false]
          refine h.free s fun j oj hj hL hd => ?_
          have hjn : j < n := by
            rcases Nat.lt_or_ge j n with h' | h'
            · exact h'
            · rw [h.front j h'] at hL; cases hL
          have : ((l.take n).any fun o => o.dst == some s) = true := List.any_eq_true.2 ⟨oj, List.mem_of_getElem? (i := j) (by rw [List.getElem?_take, if_pos hjn]; simpa using hj), by simp [hd]⟩
          rw [hany] at this
          cases this
      have hw := hrest (got a') w' h.grow (fun j hj => h.rel j (hall j (by simp; omega)))
      rw [← ha, hnl, Nat.sub_self] at hw
      exact hw
    · have hall := all_listed2 (n := n) (S := S) (a0 := a) hF (by rw [hs, hsize]) hr
      obtain rfl : k = l.length := by
        rcases Nat.lt_or_ge k l.length with h1 | h1
        · have := hall k (by simpa using h1)
          rw [hL k] at this
          simp at this
        · omega
      rw [Nat.sub_self] at hw
      exact hw
  · unfold unlisted
    exact Nat.le_trans (List.length_filter_le _ _) (by simp)
  · left
    refine ⟨by simp, by simp, rfl, rfl, fun s _ => rfl, ⟨[⟨#[], w.drawn + 1⟩], by simp [plus, blocks, draws]⟩, ?_, ?_, ?_⟩
    · intro i hi
      by_cases hl : i < l.length <;> simp [hl] at hi
    · intro i k hi
      by_cases hl : i < l.length <;> simp [hl] at hi
    · intro i _
      by_cases hl : i < l.length <;> simp [hl]

end

end

end Go.Proofs.YtcekcihijdipoaaGreat
