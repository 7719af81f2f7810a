/- What arena.Make gives. -/
import Derived.Test.YtmmflpjfgapaaaaArena8
import Derived.Test.YtmmflpjfgapaaaaArena5
import Derived.Deep.DeepCutAuto
namespace Go.Proofs.Ytmmflpjfgapaaaa
open Go.RowKit Go.ChangeShapes Go.WideShapes Go.ChangeAt
set_option linter.unusedSimpArgs false
set_option linter.unusedVariables false
attribute [local go_sem] plus_size plus_drew dn_set dn_alloc dn_plus plus_dn cell_plus frozen_plus set_plus cell_alloc frozen_alloc set_alloc

def l12S (i : Nat) : List Nat := match i with | 0 => [55] | 1 => [56] | 4 => [4] | _ => []
def l12Φ (g1 m c1 k : Nat) (gn : Int) (b1 : Nat) (o1 : Obj) (b2 : Nat) (o2 : Obj) (i : Nat) (t : Nat → Value) (w' : World) : Prop := match i with
  | 0 => t 55 = .agg #[.slice (some ⟨g1, 0, none⟩) m c1]
  | 1 => t 56 = .agg #[.int .i64 k, .int .i64 gn]
  | 2 => w'.heap[b1]? = some o1
  | 3 => w'.heap[b2]? = some o2
  | 4 => t 4 = .int .i64 0
  | _ => True
theorem l12Φ_mono (g1 m c1 k : Nat) (gn : Int) (b1 : Nat) (o1 : Obj) (b2 : Nat) (o2 : Obj) : ∀ i t t' w w', l12Φ g1 m c1 k gn b1 o1 b2 o2 i t w → (∀ s ∈ l12S i, t' s = t s) → Two b1 o1 b2 o2 w w' → l12Φ g1 m c1 k gn b1 o1 b2 o2 i t' w' := by
  intro i t t' w w' h hs' ht
  match i with
  | 0 => exact (hs' 55 (by decide)).trans h
  | 1 => exact (hs' 56 (by decide)).trans h
  | 2 => exact (two_one ht h).elim id id
  | 3 => exact (two_two ht h).elim id id
  | 4 => exact (hs' 4 (by decide)).trans h
  | i + 5 => trivial

set_option maxRecDepth 100000 in
set_option maxHeartbeats 4000000 in
theorem lmake_calls (ao : Option Addr) (n cap : Nat) (l : List Sl) (w : World) (hl : Lay fS w ao n l) (hn : n ≤ 1000) :
    Calls Try.prog 49 #[.agg #[.slice ao n cap]] w fun e w' => RetM w (mkRes l) (mkS l) (mkG l) (mkErr l) e w' := by
  have hlen := hl.len
  have hmf : ∀ (fn : Fn) (first cap : Array Value) (w : World), (Instr.makeFunc fn first cap).run Try.prog w = .ok (.func fn first cap) w := fun _ _ _ _ => rfl
  cases ho : arOk l
  · have hC : allErr l = 8 := by rw [allErr, ho]; rfl
    have he : mkErr l = 8 := by rw [mkErr, ho]; rfl
    rw [mkS, mkG, mkRes, he]
    go_enter Try.func49, Try.ntmps49
    go_wp2_with (go_at_call 66; refine (plus_post (lcheck_calls _ _ _ l _ (hl.ex (by with_reducible repeat (first | exact ex_refl _ | exact ex_more | apply ex_alloc | apply ex_plus | apply ex_drew | apply ex_drewN))) (by omega))).mono ?_; rintro e w' ⟨rfl, nx, rfl⟩; rw [hC])
    exact bodyPost_ret (v := .tuple #[.agg #[.slice none 0 0], .agg #[.int .i64 0, .int .i64 0], .int .i64 8]) (by simp [results, Try.results49, go_sem, ↓IntWalk.iteOmega]) rfl ⟨none, 0, rfl, (by with_reducible repeat (first | exact ex_refl _ | exact ex_more | apply ex_alloc | apply ex_plus | apply ex_drew | apply ex_drewN)), own_nil⟩
  have hC : allErr l = 0 := by rw [allErr, ho]; rfl
  have h128 := arOk_len ho
  have hfl := freeAt_le l
  obtain ⟨k, hfa⟩ : ∃ k, freeAt l = k := ⟨_, rfl⟩
  by_cases hkl : k < n
  · have he : mkErr l = 0 := by rw [mkErr, if_pos ho, if_pos (by omega)]
    have hml : mkList l = l.set k ⟨(nth dSl l k).gen + 1, true⟩ := by rw [mkList, if_pos (by omega), hfa]
    have hmg : mkGen l = (nth dSl l k).gen + 1 := by rw [mkGen, if_pos (by omega), hfa]
    have hmS : mkSlot l = k := by rw [mkSlot, hfa]
    have hge := arOk_at ho (k := k) (by omega)
    have i1 : ¬ (k : Int) = 128 := by omega
    have d1 : ((k : Int) == 128) = false := by rw [beq_eq_false_iff_ne]; exact i1
    have i2 : ¬ (k : Int) = (n : Int) := by omega
    have d2 : ((k : Int) == (n : Int)) = false := by rw [beq_eq_false_iff_ne]; exact i2
    have iwg : IntKind.i64.wrap ((nth dSl l k).gen + 1) = (nth dSl l k).gen + 1 := wrap_le (by omega)
    go_enter Try.func49, Try.ntmps49
    go_upto_region 10 with (first | (go_at_call 66; refine (plus_post (lcheck_calls _ _ _ l _ (hl.ex (by with_reducible repeat (first | exact ex_refl _ | exact ex_more | apply ex_alloc | apply ex_plus | apply ex_drew | apply ex_drewN))) (by omega))).mono ?_; rintro e w' ⟨rfl, nx, rfl⟩; rw [hC]) | (go_at_call 71; refine (plus_post (lfirst_calls _ _ _ l _ (hl.ex (by with_reducible repeat (first | exact ex_refl _ | exact ex_more | apply ex_alloc | apply ex_plus | apply ex_drew | apply ex_drewN))) (by omega))).mono ?_; rintro e w' ⟨rfl, nf, rfl⟩; rw [hfa]) | (go_at_call 56; refine (ltwin_calls _ _ _ l _ (hl.ex (by with_reducible repeat (first | exact ex_refl _ | exact ex_more | apply ex_alloc | apply ex_plus | apply ex_drew | apply ex_drewN))) (by omega)).mono ?_; rintro e w1 ⟨a1, c1, rfl, hw1, o1⟩; have hr1 : w1.heap[w.heap.size + 1]? = some (.cells #[.slice none 0 0] 24) := blk_ex (w := (w.alloc (.cells #[.slice ao n cap] 24)).alloc (.cells #[.slice none 0 0] 24)) (by with_reducible repeat (first | exact ex_refl _ | exact ex_more | apply ex_alloc | apply ex_plus | apply ex_drew | apply ex_drewN | (apply ex_on; assumption))) (by rw [blk_alloc, if_pos (by simp [go_sem])]); have hr2 : w1.heap[w.heap.size + 1 + 1]? = some (.cells #[.int .i64 0, .int .i64 0] 29) := blk_ex (w := ((w.alloc (.cells #[.slice ao n cap] 24)).alloc (.cells #[.slice none 0 0] 24)).alloc (.cells #[.int .i64 0, .int .i64 0] 29)) (by with_reducible repeat (first | exact ex_refl _ | exact ex_more | apply ex_alloc | apply ex_plus | apply ex_drew | apply ex_drewN | (apply ex_on; assumption))) (by rw [blk_alloc, if_pos (by simp [go_sem])]); have hrl := blk_lt hr2))
    obtain ⟨g1, cur0, rfl, _, _, _⟩ := o1.blk (by omega)
    have hq : (w1.alloc (.cells #[.slice (some ⟨g1, 0, none⟩) n c1] 24)).heap[w1.heap.size]? = some (.cells #[.slice (some ⟨g1, 0, none⟩) n c1] 24) := by rw [blk_alloc, if_pos rfl]
    have hr1' := blk_ex (ex_alloc (o := (.cells #[.slice (some ⟨g1, 0, none⟩) n c1] 24)) (ex_refl w1)) hr1
    have hr2' := blk_ex (ex_alloc (o := (.cells #[.slice (some ⟨g1, 0, none⟩) n c1] 24)) (ex_refl w1)) hr2
    have o2 := (o1.ex (ex_alloc (o := (.cells #[.slice (some ⟨g1, 0, none⟩) n c1] 24)) (ex_refl w1))).base (T' := w) (by simp [go_sem]; omega)
    have hx2 : ∃ y, w1.alloc (.cells #[.slice (some ⟨g1, 0, none⟩) n c1] 24) = plus w y := (by with_reducible repeat (first | exact ex_refl _ | exact ex_more | apply ex_alloc | apply ex_plus | apply ex_drew | apply ex_drewN | (apply ex_on; assumption)))
    clear hr1 hr2 o1
    generalize w1.alloc (.cells #[.slice (some ⟨g1, 0, none⟩) n c1] 24) = w2 at *
    have hKM : k < n := hkl
    have iK : (k : Int) < ((n : Nat) : Int) := by omega
    obtain ⟨_, cur, eqa, hgw, hb1, _⟩ := o2.blk (by omega)
    cases eqa
    obtain ⟨_, _, eqa, hlt1, hc1⟩ := o2.lay.some (by omega)
    cases eqa
    obtain ⟨x0, x1⟩ := cellS o2.1 hc1 (k := k) hKM
    rw [Nat.zero_add] at x0 x1
    have y0 := cell_blk (i := 0) hq rfl
    have z0 := frozen_blk (i := k * 2) hb1
    have z1 := frozen_blk (i := k * 2 + 1) hb1
    have hlq := blk_lt hq
    have n1 : g1 ≠ w.heap.size + 1 := by
      intro e0
      rw [e0, hr1'] at hb1
      cases hb1
    have n2 : g1 ≠ w.heap.size + 1 + 1 := by
      intro e0
      rw [e0, hr2'] at hb1
      cases hb1
    have nq : g1 ≠ w1.heap.size := by
      intro e0
      rw [e0, hq] at hb1
      cases hb1
    go_wp2
    refine region_tail 6 (by kernel_rfl) (by kernel_rfl) ?_
    simp only [List.take_succ_cons, List.take_zero, List.drop_succ_cons, List.drop_zero]
    (repeat (go_big_quiet_step ((go_at_call 73; exact plus_of (lslotOf_calls _ _ _)))))
    refine wpQuiet_nil ?_
    rintro _ ⟨x2, rfl⟩
    go_wp2
    have o3 := (o2.set_self (u := .int .i64 (((nth dSl l k).gen + 1))) k 0 ⟨((nth dSl l k).gen + 1), (nth dSl l k).live⟩ dSl hKM fS_c (by decide) rfl).set_self (u := .bool true) k 1 ⟨((nth dSl l k).gen + 1), true⟩ dSl hKM fS_c (by decide) (by rw [nth_set' (by rw [o2.1]; exact hKM), if_pos rfl]; rfl)
    rw [List.set_set, Nat.add_zero] at o3
    have r1 : ((w2.setCell ⟨g1, k * 2, none⟩ (.int .i64 ((nth dSl l k).gen + 1))).setCell ⟨g1, k * 2 + 1, none⟩ (.bool true)).heap[w.heap.size + 1]? = _ := (blk_set_ne n1).trans ((blk_set_ne n1).trans hr1')
    have r2 : ((w2.setCell ⟨g1, k * 2, none⟩ (.int .i64 ((nth dSl l k).gen + 1))).setCell ⟨g1, k * 2 + 1, none⟩ (.bool true)).heap[w.heap.size + 1 + 1]? = _ := (blk_set_ne n2).trans ((blk_set_ne n2).trans hr2')
    have rq : ((w2.setCell ⟨g1, k * 2, none⟩ (.int .i64 ((nth dSl l k).gen + 1))).setCell ⟨g1, k * 2 + 1, none⟩ (.bool true)).heap[w1.heap.size]? = _ := (blk_set_ne nq).trans ((blk_set_ne nq).trans hq)
    have hsz2 : ((w2.setCell ⟨g1, k * 2, none⟩ (.int .i64 ((nth dSl l k).gen + 1))).setCell ⟨g1, k * 2 + 1, none⟩ (.bool true)).heap.size = w2.heap.size := by rw [size_set, size_set]
    have hx3 : ∃ y, (w2.setCell ⟨g1, k * 2, none⟩ (.int .i64 ((nth dSl l k).gen + 1))).setCell ⟨g1, k * 2 + 1, none⟩ (.bool true) = plus w y := ex_set_new (ex_set_new hx2 hgw) hgw
    clear x0 x1 y0 z0 z1 hb1 hc1 hr1' hr2' hq o2 hx2
    generalize (w2.setCell ⟨g1, k * 2, none⟩ (.int .i64 ((nth dSl l k).gen + 1))).setCell ⟨g1, k * 2 + 1, none⟩ (.bool true) = w5 at *
    have hh : (w5.alloc (.cells #[.int .i64 k, .int .i64 ((nth dSl l k).gen + 1)] 29)).heap[w2.heap.size]? = some (.cells #[.int .i64 k, .int .i64 ((nth dSl l k).gen + 1)] 29) := by rw [blk_alloc, if_pos hsz2.symm]
    have hh' := blk_ex (ex_plus (y := x2) (ex_refl _)) hh
    have r1' := blk_ex (ex_plus (y := x2) (ex_alloc (o := (.cells #[.int .i64 k, .int .i64 ((nth dSl l k).gen + 1)] 29)) (ex_refl w5))) r1
    have r2' := blk_ex (ex_plus (y := x2) (ex_alloc (o := (.cells #[.int .i64 k, .int .i64 ((nth dSl l k).gen + 1)] 29)) (ex_refl w5))) r2
    have rq' := blk_ex (ex_plus (y := x2) (ex_alloc (o := (.cells #[.int .i64 k, .int .i64 ((nth dSl l k).gen + 1)] 29)) (ex_refl w5))) rq
    have o3' := o3.ex (ex_plus (y := x2) (ex_alloc (o := (.cells #[.int .i64 k, .int .i64 ((nth dSl l k).gen + 1)] 29)) (ex_refl w5)))
    have hx3' := ex_plus (y := x2) (ex_alloc (o := (.cells #[.int .i64 k, .int .i64 ((nth dSl l k).gen + 1)] 29)) hx3)
    clear r1 r2 rq o3 hx3 hh
    generalize plus (w5.alloc (.cells #[.int .i64 k, .int .i64 ((nth dSl l k).gen + 1)] 29)) x2 = w3 at *
    have f0 := cell_blk (i := 0) rq' rfl
    have f1 := cell_blk (i := 0) hh' rfl
    have f2 := cell_blk (i := 1) hh' rfl
    have nb : w.heap.size + 1 ≠ w.heap.size + 1 + 1 := by omega
    refine region_relG 5 l12S (l12Φ g1 (n) c1 k (((nth dSl l k).gen + 1)) (w.heap.size + 1) (.cells #[.slice (some ⟨g1, 0, none⟩) n c1] 24) (w.heap.size + 1 + 1) (.cells #[.int .i64 k, .int .i64 ((nth dSl l k).gen + 1)] 29)) (Two (w.heap.size + 1) (.cells #[.slice (some ⟨g1, 0, none⟩) n c1] 24) (w.heap.size + 1 + 1) (.cells #[.int .i64 k, .int .i64 ((nth dSl l k).gen + 1)] 29)) two_trans (two_draw _) (by kernel_rfl) (by kernel_rfl) (by decide) (l12Φ_mono _ _ _ _ _ _ _ _ _) ?steps ?fin
    case steps =>
      refine ⟨?_, ?_, ?_, ?_, ?_, trivial⟩
      · intro a w' hg hfree hdeep
        have f7' := hfree 7 (by kernel_rfl)
        have e0 := two_cell hg f0 (by omega) (by omega)
        simp only [l12Φ, got] at f7'
        simp [go_sem] at f7'
        unfold Oper.wp
        simp [go_sem, execOp, Act.eval, ↓IntWalk.iteOmega, f7', e0]
        exact ⟨_, rfl, two_refl _, by simp [l12Φ, upd]⟩
      · intro a w' hg hfree hdeep
        have f8' := hfree 8 (by kernel_rfl)
        have e1 := two_cell hg f1 (by omega) (by omega)
        have e2 := two_cell hg f2 (by omega) (by omega)
        simp only [l12Φ, got] at f8'
        simp [go_sem] at f8'
        unfold Oper.wp
        simp [go_sem, execOp, Act.eval, ↓IntWalk.iteOmega, f8', e1, e2]
        exact ⟨_, rfl, two_refl _, by simp [l12Φ, upd]⟩
      · intro a w' hg hfree hdeep
        have f2' := hfree 2 (by kernel_rfl)
        have d0 := hdeep 0 (by kernel_rfl)
        simp only [l12Φ, got] at f2' d0
        simp [go_sem] at f2'
        rcases two_one hg r1' with hb | hb
        · have c0' := cell_blk (i := 0) hb rfl; have z0' := frozen_blk (i := 0) hb
          unfold Oper.wp
          simp [go_sem, execOp, Act.eval, f2', d0, c0', z0']
          exact ⟨two_set1 nb (blk_set_eq hb), undef, (blk_set_eq hb)⟩
        · have c0' := cell_blk (i := 0) hb rfl; have z0' := frozen_blk (i := 0) hb
          unfold Oper.wp
          simp [go_sem, execOp, Act.eval, f2', d0, c0', z0']
          exact ⟨two_set1 nb (blk_set_eq hb), undef, (blk_set_eq hb)⟩
      · intro a w' hg hfree hdeep
        have f3' := hfree 3 (by kernel_rfl)
        have d1 := hdeep 1 (by kernel_rfl)
        simp only [l12Φ, got] at f3' d1
        simp [go_sem] at f3'
        rcases two_two hg r2' with hb | hb
        · have c0' := cell_blk (i := 0) hb rfl; have z0' := frozen_blk (i := 0) hb; have c1' := cell_blk (i := 1) hb rfl; have z1' := frozen_blk (i := 1) hb
          unfold Oper.wp
          simp [go_sem, execOp, Act.eval, f3', d1, c0', z0', c1', z1']
          exact ⟨two_set2 nb (blk_set_eq (blk_set_eq hb)), undef, (blk_set_eq (blk_set_eq hb))⟩
        · have c0' := cell_blk (i := 0) hb rfl; have z0' := frozen_blk (i := 0) hb; have c1' := cell_blk (i := 1) hb rfl; have z1' := frozen_blk (i := 1) hb
          unfold Oper.wp
          simp [go_sem, execOp, Act.eval, f3', d1, c0', z0', c1', z1']
          exact ⟨two_set2 nb (blk_set_eq (blk_set_eq hb)), undef, (blk_set_eq (blk_set_eq hb))⟩
      · intro a w' hg hfree hdeep
        unfold Oper.wp
        simp [go_sem, execOp, Act.eval, ↓IntWalk.iteOmega]
        exact ⟨_, rfl, two_refl _, by simp [l12Φ, upd]⟩
    case fin =>
      rintro t w4 hg hΦ
      have h9 := hΦ 2 (by decide)
      have h10 := hΦ 3 (by decide)
      have h11 := hΦ 4 (by decide)
      simp only [l12Φ] at h9 h10 h11
      have o4 := o3'.two hg r1' r2' (by decide) (by decide)
      have hx4 := two_ex hg hx3' (by omega) (by omega)
      simp only [putAll, List.take_succ_cons, List.take_zero, List.take_nil, Act.put]
      simp only [List.setIfInBounds_toArray, List.set_cons_succ, List.set_cons_zero, h11]
      simp only [List.drop_succ_cons, List.drop_zero]
      clear hΦ hg o3' hx3' f0 f1 f2 r1' r2' rq' hh'
      have c0 := cell_blk (i := 0) h9 rfl
      have c1' := cell_blk (i := 0) h10 rfl
      have c2' := cell_blk (i := 1) h10 rfl
      go_wp2
      have hpost : RetM w (mkRes l) (mkS l) (mkG l) (mkErr l) (.returned (.tuple #[.agg #[.slice (some ⟨g1, 0, none⟩) n c1], .agg #[.int .i64 k, .int .i64 ((nth dSl l k).gen + 1)], .int .i64 0])) w4 := by
        rw [mkRes, mkS, mkG, if_pos he, if_pos he, if_pos he, he, hml, hmg, hmS]
        exact ⟨some ⟨g1, 0, none⟩, c1, by rw [o4.1], hx4, by rw [o4.1]; exact o4⟩
      exact bodyPost_ret (v := .tuple #[.agg #[.slice (some ⟨g1, 0, none⟩) n c1], .agg #[.int .i64 k, .int .i64 ((nth dSl l k).gen + 1)], .int .i64 0]) (by simp [results, Try.results49, go_sem, c0, c1', c2']) rfl hpost
  obtain rfl : k = n := by omega
  by_cases h8 : 128 ≤ k
  · have d8 : ((k : Int) == 128) = true := by rw [beq_iff_eq]; omega
    have he : mkErr l = 9 := by rw [mkErr, if_pos ho, if_neg (by omega), if_pos (by omega)]
    rw [mkS, mkG, mkRes, he]
    go_enter Try.func49, Try.ntmps49
    go_wp2_with (first | (go_at_call 66; refine (plus_post (lcheck_calls _ _ _ l _ (hl.ex (by with_reducible repeat (first | exact ex_refl _ | exact ex_more | apply ex_alloc | apply ex_plus | apply ex_drew | apply ex_drewN))) (by omega))).mono ?_; rintro e w' ⟨rfl, nx, rfl⟩; rw [hC]) | (go_at_call 71; refine (plus_post (lfirst_calls _ _ _ l _ (hl.ex (by with_reducible repeat (first | exact ex_refl _ | exact ex_more | apply ex_alloc | apply ex_plus | apply ex_drew | apply ex_drewN))) (by omega))).mono ?_; rintro e w' ⟨rfl, nf, rfl⟩; rw [hfa]))
    exact bodyPost_ret (v := .tuple #[.agg #[.slice none 0 0], .agg #[.int .i64 0, .int .i64 0], .int .i64 9]) (by simp [results, Try.results49, go_sem, ↓IntWalk.iteOmega]) rfl ⟨none, 0, rfl, (by with_reducible repeat (first | exact ex_refl _ | exact ex_more | apply ex_alloc | apply ex_plus | apply ex_drew | apply ex_drewN)), own_nil⟩
  · have i8 : ¬ (k : Int) = 128 := by omega
    have d8 : ((k : Int) == 128) = false := by rw [beq_eq_false_iff_ne]; exact i8
    have he : mkErr l = 0 := by rw [mkErr, if_pos ho, if_neg (by omega), if_neg (by omega)]
    have hml : mkList l = (l ++ [dSl]).set k ⟨1, true⟩ := by rw [mkList, if_neg (by omega), List.set_append_right _ _ (by omega), hlen, Nat.sub_self]; rfl
    have hmg : mkGen l = 1 := by rw [mkGen, if_neg (by omega)]
    have hmS : mkSlot l = k := by rw [mkSlot, hfa]
    go_enter Try.func49, Try.ntmps49
    go_upto_region 10 with (first | (go_at_call 66; refine (plus_post (lcheck_calls _ _ _ l _ (hl.ex (by with_reducible repeat (first | exact ex_refl _ | exact ex_more | apply ex_alloc | apply ex_plus | apply ex_drew | apply ex_drewN))) (by omega))).mono ?_; rintro e w' ⟨rfl, nx, rfl⟩; rw [hC]) | (go_at_call 71; refine (plus_post (lfirst_calls _ _ _ l _ (hl.ex (by with_reducible repeat (first | exact ex_refl _ | exact ex_more | apply ex_alloc | apply ex_plus | apply ex_drew | apply ex_drewN))) (by omega))).mono ?_; rintro e w' ⟨rfl, nf, rfl⟩; rw [hfa]) | (go_at_call 56; refine (ltwin_calls _ _ _ l _ (hl.ex (by with_reducible repeat (first | exact ex_refl _ | exact ex_more | apply ex_alloc | apply ex_plus | apply ex_drew | apply ex_drewN))) (by omega)).mono ?_; rintro e w1 ⟨a1, c1, rfl, hw1, o1⟩; have hr1 : w1.heap[w.heap.size + 1]? = some (.cells #[.slice none 0 0] 24) := blk_ex (w := (w.alloc (.cells #[.slice ao k cap] 24)).alloc (.cells #[.slice none 0 0] 24)) (by with_reducible repeat (first | exact ex_refl _ | exact ex_more | apply ex_alloc | apply ex_plus | apply ex_drew | apply ex_drewN | (apply ex_on; assumption))) (by rw [blk_alloc, if_pos (by simp [go_sem])]); have hr2 : w1.heap[w.heap.size + 1 + 1]? = some (.cells #[.int .i64 0, .int .i64 0] 29) := blk_ex (w := ((w.alloc (.cells #[.slice ao k cap] 24)).alloc (.cells #[.slice none 0 0] 24)).alloc (.cells #[.int .i64 0, .int .i64 0] 29)) (by with_reducible repeat (first | exact ex_refl _ | exact ex_more | apply ex_alloc | apply ex_plus | apply ex_drew | apply ex_drewN | (apply ex_on; assumption))) (by rw [blk_alloc, if_pos (by simp [go_sem])]); have hrl := blk_lt hr2) | (at_builtin; refine wpList_append_lay2 (T := w) rfl _ _ rfl kinS fS_c fS_1 rfl (by with_reducible repeat (first | exact ex_refl _ | exact ex_more | apply ex_alloc | apply ex_plus | apply ex_drew | apply ex_drewN | (apply ex_on; assumption))) ((o1.base (T' := w) (by simp [go_sem]; omega)).ex (by with_reducible repeat (first | exact ex_refl _ | exact ex_more | apply ex_alloc | apply ex_plus | apply ex_drew | apply ex_drewN))) rfl (l2 := [dSl]) ⟨rfl, .inr ⟨_, 0, rfl, by (simp [go_sem]; try omega), fun jj u hu => by match jj, hu with | 0, hu => (simp [fS, dSl] at hu; subst hu; simp [go_sem, ↓IntWalk.iteOmega]) | 1, hu => (simp [fS, dSl] at hu; subst hu; simp [go_sem, ↓IntWalk.iteOmega]) | jj + 2, hu => simp [fS, dSl] at hu⟩⟩ (by omega) (by decide) ?_; intro a4 c4 w4 o4 hx4 hgr4; have bx := grown_blk (g := w1.heap.size) hgr4 ((o1.base (T' := w) (by simp [go_sem]; omega)).ex (by with_reducible repeat (first | exact ex_refl _ | exact ex_more | apply ex_alloc | apply ex_plus | apply ex_drew | apply ex_drewN))) (blk_ex (w := w1.alloc (.cells #[.slice a1 k c1] 24)) (by with_reducible repeat (first | exact ex_refl _ | exact ex_more | apply ex_alloc | apply ex_plus | apply ex_drew | apply ex_drewN)) (by rw [blk_alloc, if_pos rfl])) (by decide); have b1 := grown_blk hgr4 ((o1.base (T' := w) (by simp [go_sem]; omega)).ex (by with_reducible repeat (first | exact ex_refl _ | exact ex_more | apply ex_alloc | apply ex_plus | apply ex_drew | apply ex_drewN))) (blk_ex (by with_reducible repeat (first | exact ex_refl _ | exact ex_more | apply ex_alloc | apply ex_plus | apply ex_drew | apply ex_drewN)) hr1) (by decide); have b2 := grown_blk hgr4 ((o1.base (T' := w) (by simp [go_sem]; omega)).ex (by with_reducible repeat (first | exact ex_refl _ | exact ex_more | apply ex_alloc | apply ex_plus | apply ex_drew | apply ex_drewN))) (blk_ex (by with_reducible repeat (first | exact ex_refl _ | exact ex_more | apply ex_alloc | apply ex_plus | apply ex_drew | apply ex_drewN)) hr2) (by decide); have u3 := cell_blk (i := 0) bx rfl; have v3 := frozen_blk (i := 0) bx; have lx := blk_lt bx; have l2 := blk_lt b2))
    obtain ⟨g1, cur0, rfl, _, hb4, _⟩ := o4.blk (by omega)
    have n4 : g1 ≠ w1.heap.size := by
      intro e0
      rw [e0, bx] at hb4
      cases hb4
    have hq : (w4.setCell ⟨w1.heap.size, 0, none⟩ (.slice (some ⟨g1, 0, none⟩) (k + 1) c4)).heap[w1.heap.size]? = some (.cells #[.slice (some ⟨g1, 0, none⟩) (k + 1) c4] 24) := blk_set_eq bx
    have hr1' : (w4.setCell ⟨w1.heap.size, 0, none⟩ (.slice (some ⟨g1, 0, none⟩) (k + 1) c4)).heap[w.heap.size + 1]? = _ := (blk_set_ne (by omega)).trans b1
    have hr2' : (w4.setCell ⟨w1.heap.size, 0, none⟩ (.slice (some ⟨g1, 0, none⟩) (k + 1) c4)).heap[w.heap.size + 1 + 1]? = _ := (blk_set_ne (by omega)).trans b2
    have o2 := o4.set_other (i := 0) (u := .slice (some ⟨g1, 0, none⟩) (k + 1) c4) bx (by decide)
    have hx2 : ∃ y, w4.setCell ⟨w1.heap.size, 0, none⟩ (.slice (some ⟨g1, 0, none⟩) (k + 1) c4) = plus w y := ex_set_new hx4 (by omega)
    clear u3 v3 bx b1 b2 o4 hx4 hgr4 hb4 n4
    generalize w4.setCell ⟨w1.heap.size, 0, none⟩ (.slice (some ⟨g1, 0, none⟩) (k + 1) c4) = w2 at *
    have hKM : k < k + 1 := Nat.lt_succ_self k
    have iK : (k : Int) < (((k + 1) : Nat) : Int) := by omega
    obtain ⟨_, cur, eqa, hgw, hb1, _⟩ := o2.blk (by omega)
    cases eqa
    obtain ⟨_, _, eqa, hlt1, hc1⟩ := o2.lay.some (by omega)
    cases eqa
    obtain ⟨x0, x1⟩ := cellS o2.1 hc1 (k := k) hKM
    rw [Nat.zero_add] at x0 x1
    rw [nth_append_right (by omega), show k - l.length = 0 by omega] at x0 x1
    simp only [nth, dSl, List.getD_cons_zero] at x0 x1
    have y0 := cell_blk (i := 0) hq rfl
    have z0 := frozen_blk (i := k * 2) hb1
    have z1 := frozen_blk (i := k * 2 + 1) hb1
    have hlq := blk_lt hq
    have n1 : g1 ≠ w.heap.size + 1 := by
      intro e0
      rw [e0, hr1'] at hb1
      cases hb1
    have n2 : g1 ≠ w.heap.size + 1 + 1 := by
      intro e0
      rw [e0, hr2'] at hb1
      cases hb1
    have nq : g1 ≠ w1.heap.size := by
      intro e0
      rw [e0, hq] at hb1
      cases hb1
    go_wp2
    refine region_tail 6 (by kernel_rfl) (by kernel_rfl) ?_
    simp only [List.take_succ_cons, List.take_zero, List.drop_succ_cons, List.drop_zero]
    (repeat (go_big_quiet_step ((go_at_call 73; exact plus_of (lslotOf_calls _ _ _)))))
    refine wpQuiet_nil ?_
    rintro _ ⟨x2, rfl⟩
    go_wp2
    have o3 := (o2.set_self (u := .int .i64 (1)) k 0 ⟨1, (nth dSl (l ++ [dSl]) k).live⟩ dSl hKM fS_c (by decide) rfl).set_self (u := .bool true) k 1 ⟨1, true⟩ dSl hKM fS_c (by decide) (by rw [nth_set' (by rw [o2.1]; exact hKM), if_pos rfl]; rfl)
    rw [List.set_set, Nat.add_zero] at o3
    have r1 : ((w2.setCell ⟨g1, k * 2, none⟩ (.int .i64 1)).setCell ⟨g1, k * 2 + 1, none⟩ (.bool true)).heap[w.heap.size + 1]? = _ := (blk_set_ne n1).trans ((blk_set_ne n1).trans hr1')
    have r2 : ((w2.setCell ⟨g1, k * 2, none⟩ (.int .i64 1)).setCell ⟨g1, k * 2 + 1, none⟩ (.bool true)).heap[w.heap.size + 1 + 1]? = _ := (blk_set_ne n2).trans ((blk_set_ne n2).trans hr2')
    have rq : ((w2.setCell ⟨g1, k * 2, none⟩ (.int .i64 1)).setCell ⟨g1, k * 2 + 1, none⟩ (.bool true)).heap[w1.heap.size]? = _ := (blk_set_ne nq).trans ((blk_set_ne nq).trans hq)
    have hsz2 : ((w2.setCell ⟨g1, k * 2, none⟩ (.int .i64 1)).setCell ⟨g1, k * 2 + 1, none⟩ (.bool true)).heap.size = w2.heap.size := by rw [size_set, size_set]
    have hx3 : ∃ y, (w2.setCell ⟨g1, k * 2, none⟩ (.int .i64 1)).setCell ⟨g1, k * 2 + 1, none⟩ (.bool true) = plus w y := ex_set_new (ex_set_new hx2 hgw) hgw
    clear x0 x1 y0 z0 z1 hb1 hc1 hr1' hr2' hq o2 hx2
    generalize (w2.setCell ⟨g1, k * 2, none⟩ (.int .i64 1)).setCell ⟨g1, k * 2 + 1, none⟩ (.bool true) = w5 at *
    have hh : (w5.alloc (.cells #[.int .i64 k, .int .i64 1] 29)).heap[w2.heap.size]? = some (.cells #[.int .i64 k, .int .i64 1] 29) := by rw [blk_alloc, if_pos hsz2.symm]
    have hh' := blk_ex (ex_plus (y := x2) (ex_refl _)) hh
    have r1' := blk_ex (ex_plus (y := x2) (ex_alloc (o := (.cells #[.int .i64 k, .int .i64 1] 29)) (ex_refl w5))) r1
    have r2' := blk_ex (ex_plus (y := x2) (ex_alloc (o := (.cells #[.int .i64 k, .int .i64 1] 29)) (ex_refl w5))) r2
    have rq' := blk_ex (ex_plus (y := x2) (ex_alloc (o := (.cells #[.int .i64 k, .int .i64 1] 29)) (ex_refl w5))) rq
    have o3' := o3.ex (ex_plus (y := x2) (ex_alloc (o := (.cells #[.int .i64 k, .int .i64 1] 29)) (ex_refl w5)))
    have hx3' := ex_plus (y := x2) (ex_alloc (o := (.cells #[.int .i64 k, .int .i64 1] 29)) hx3)
    clear r1 r2 rq o3 hx3 hh
    generalize plus (w5.alloc (.cells #[.int .i64 k, .int .i64 1] 29)) x2 = w3 at *
    have f0 := cell_blk (i := 0) rq' rfl
    have f1 := cell_blk (i := 0) hh' rfl
    have f2 := cell_blk (i := 1) hh' rfl
    have nb : w.heap.size + 1 ≠ w.heap.size + 1 + 1 := by omega
    refine region_relG 5 l12S (l12Φ g1 ((k + 1)) c4 k (1) (w.heap.size + 1) (.cells #[.slice (some ⟨g1, 0, none⟩) (k + 1) c4] 24) (w.heap.size + 1 + 1) (.cells #[.int .i64 k, .int .i64 1] 29)) (Two (w.heap.size + 1) (.cells #[.slice (some ⟨g1, 0, none⟩) (k + 1) c4] 24) (w.heap.size + 1 + 1) (.cells #[.int .i64 k, .int .i64 1] 29)) two_trans (two_draw _) (by kernel_rfl) (by kernel_rfl) (by decide) (l12Φ_mono _ _ _ _ _ _ _ _ _) ?steps ?fin
    case steps =>
      refine ⟨?_, ?_, ?_, ?_, ?_, trivial⟩
      · intro a w' hg hfree hdeep
        have f7' := hfree 7 (by kernel_rfl)
        have e0 := two_cell hg f0 (by omega) (by omega)
        simp only [l12Φ, got] at f7'
        simp [go_sem] at f7'
        unfold Oper.wp
        simp [go_sem, execOp, Act.eval, ↓IntWalk.iteOmega, f7', e0]
        exact ⟨_, rfl, two_refl _, by simp [l12Φ, upd]⟩
      · intro a w' hg hfree hdeep
        have f8' := hfree 8 (by kernel_rfl)
        have e1 := two_cell hg f1 (by omega) (by omega)
        have e2 := two_cell hg f2 (by omega) (by omega)
        simp only [l12Φ, got] at f8'
        simp [go_sem] at f8'
        unfold Oper.wp
        simp [go_sem, execOp, Act.eval, ↓IntWalk.iteOmega, f8', e1, e2]
        exact ⟨_, rfl, two_refl _, by simp [l12Φ, upd]⟩
      · intro a w' hg hfree hdeep
        have f2' := hfree 2 (by kernel_rfl)
        have d0 := hdeep 0 (by kernel_rfl)
        simp only [l12Φ, got] at f2' d0
        simp [go_sem] at f2'
        rcases two_one hg r1' with hb | hb
        · have c0' := cell_blk (i := 0) hb rfl; have z0' := frozen_blk (i := 0) hb
          unfold Oper.wp
          simp [go_sem, execOp, Act.eval, f2', d0, c0', z0']
          exact ⟨two_set1 nb (blk_set_eq hb), undef, (blk_set_eq hb)⟩
        · have c0' := cell_blk (i := 0) hb rfl; have z0' := frozen_blk (i := 0) hb
          unfold Oper.wp
          simp [go_sem, execOp, Act.eval, f2', d0, c0', z0']
          exact ⟨two_set1 nb (blk_set_eq hb), undef, (blk_set_eq hb)⟩
      · intro a w' hg hfree hdeep
        have f3' := hfree 3 (by kernel_rfl)
        have d1 := hdeep 1 (by kernel_rfl)
        simp only [l12Φ, got] at f3' d1
        simp [go_sem] at f3'
        rcases two_two hg r2' with hb | hb
        · have c0' := cell_blk (i := 0) hb rfl; have z0' := frozen_blk (i := 0) hb; have c1' := cell_blk (i := 1) hb rfl; have z1' := frozen_blk (i := 1) hb
          unfold Oper.wp
          simp [go_sem, execOp, Act.eval, f3', d1, c0', z0', c1', z1']
          exact ⟨two_set2 nb (blk_set_eq (blk_set_eq hb)), undef, (blk_set_eq (blk_set_eq hb))⟩
        · have c0' := cell_blk (i := 0) hb rfl; have z0' := frozen_blk (i := 0) hb; have c1' := cell_blk (i := 1) hb rfl; have z1' := frozen_blk (i := 1) hb
          unfold Oper.wp
          simp [go_sem, execOp, Act.eval, f3', d1, c0', z0', c1', z1']
          exact ⟨two_set2 nb (blk_set_eq (blk_set_eq hb)), undef, (blk_set_eq (blk_set_eq hb))⟩
      · intro a w' hg hfree hdeep
        unfold Oper.wp
        simp [go_sem, execOp, Act.eval, ↓IntWalk.iteOmega]
        exact ⟨_, rfl, two_refl _, by simp [l12Φ, upd]⟩
    case fin =>
      rintro t w4 hg hΦ
      have h9 := hΦ 2 (by decide)
      have h10 := hΦ 3 (by decide)
      have h11 := hΦ 4 (by decide)
      simp only [l12Φ] at h9 h10 h11
      have o4 := o3'.two hg r1' r2' (by decide) (by decide)
      have hx4 := two_ex hg hx3' (by omega) (by omega)
      simp only [putAll, List.take_succ_cons, List.take_zero, List.take_nil, Act.put]
      simp only [List.setIfInBounds_toArray, List.set_cons_succ, List.set_cons_zero, h11]
      simp only [List.drop_succ_cons, List.drop_zero]
      clear hΦ hg o3' hx3' f0 f1 f2 r1' r2' rq' hh'
      have c0 := cell_blk (i := 0) h9 rfl
      have c1' := cell_blk (i := 0) h10 rfl
      have c2' := cell_blk (i := 1) h10 rfl
      go_wp2
      have hpost : RetM w (mkRes l) (mkS l) (mkG l) (mkErr l) (.returned (.tuple #[.agg #[.slice (some ⟨g1, 0, none⟩) (k + 1) c4], .agg #[.int .i64 k, .int .i64 1], .int .i64 0])) w4 := by
        rw [mkRes, mkS, mkG, if_pos he, if_pos he, if_pos he, he, hml, hmg, hmS]
        exact ⟨some ⟨g1, 0, none⟩, c4, by rw [o4.1], hx4, by rw [o4.1]; exact o4⟩
      exact bodyPost_ret (v := .tuple #[.agg #[.slice (some ⟨g1, 0, none⟩) (k + 1) c4], .agg #[.int .i64 k, .int .i64 1], .int .i64 0]) (by simp [results, Try.results49, go_sem, c0, c1', c2']) rfl hpost

end Go.Proofs.Ytmmflpjfgapaaaa
