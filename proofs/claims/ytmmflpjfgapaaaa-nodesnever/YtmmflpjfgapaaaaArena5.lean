/- What dioramaref05.Make gives. -/
import Derived.Test.YtmmflpjfgapaaaaArena4
import Derived.Test.YtmmflpjfgapaaaaTwo
namespace Go.Proofs.Ytmmflpjfgapaaaa
open Go.RowKit Go.ChangeShapes Go.WideShapes Go.ChangeAt
set_option linter.unusedSimpArgs false
set_option linter.unusedVariables false
attribute [local go_sem] plus_size plus_drew dn_set dn_alloc dn_plus plus_dn cell_plus frozen_plus set_plus cell_alloc frozen_alloc set_alloc

def mkRes (l : List Sl) : List Sl := if mkErr l = 0 then mkList l else []
def mkS (l : List Sl) : Int := if mkErr l = 0 then mkSlot l else 0
def mkG (l : List Sl) : Int := if mkErr l = 0 then mkGen l else 0
/-- an arena in new memory, a handle, and an error -/
def RetM (w : World) (l : List Sl) (s g r : Int) (e : Ending) (w' : World) : Prop := ∃ ao' cap', e = .returned (.tuple #[.agg #[.slice ao' l.length cap'], .agg #[.int .i64 s, .int .i64 g], .int .i64 r]) ∧ (∃ y, w' = plus w y) ∧ Own 67 2 fS w w' ao' l.length cap' l

def m10S (i : Nat) : List Nat := match i with | 0 => [52] | 1 => [53] | 2 => [54] | 3 => [55] | 4 => [56] | 5 => [57] | 6 => [58] | 7 => [59] | 8 => [60] | 11 => [4] | _ => []
def m10Φ (q g1 n c1 k : Nat) (gn : Int) (b1 : Nat) (o1 : Obj) (b2 : Nat) (o2 : Obj) (i : Nat) (t : Nat → Value) (w' : World) : Prop := match i with
  | 0 => t 52 = .agg #[.slice (some ⟨g1, 0, none⟩) n c1]
  | 1 => t 53 = .int .i64 k
  | 2 => t 54 = .pointer (some ⟨q, 0, none⟩)
  | 3 => t 55 = .slice (some ⟨g1, 0, none⟩) n c1
  | 4 => t 56 = .int .i64 k
  | 5 => t 57 = .pointer (some ⟨g1, k * 2, none⟩)
  | 6 => t 58 = .pointer (some ⟨g1, k * 2, none⟩)
  | 7 => t 59 = .int .i64 gn
  | 8 => t 60 = .agg #[.int .i64 k, .int .i64 gn]
  | 9 => w'.heap[b1]? = some o1
  | 10 => w'.heap[b2]? = some o2
  | 11 => t 4 = .int .i64 0
  | _ => True
theorem m10Φ_mono (q g1 n c1 k : Nat) (gn : Int) (b1 : Nat) (o1 : Obj) (b2 : Nat) (o2 : Obj) : ∀ i t t' w w', m10Φ q g1 n c1 k gn b1 o1 b2 o2 i t w → (∀ s ∈ m10S i, t' s = t s) → Two b1 o1 b2 o2 w w' → m10Φ q g1 n c1 k gn b1 o1 b2 o2 i t' w' := by
  intro i t t' w w' h hs' ht
  match i with
  | 0 => exact (hs' 52 (by decide)).trans h
  | 1 => exact (hs' 53 (by decide)).trans h
  | 2 => exact (hs' 54 (by decide)).trans h
  | 3 => exact (hs' 55 (by decide)).trans h
  | 4 => exact (hs' 56 (by decide)).trans h
  | 5 => exact (hs' 57 (by decide)).trans h
  | 6 => exact (hs' 58 (by decide)).trans h
  | 7 => exact (hs' 59 (by decide)).trans h
  | 8 => exact (hs' 60 (by decide)).trans h
  | 9 => exact (two_one ht h).elim id id
  | 10 => exact (two_two ht h).elim id id
  | 11 => exact (hs' 4 (by decide)).trans h
  | i + 12 => trivial

set_option maxRecDepth 100000 in
set_option maxHeartbeats 4000000 in
theorem rmake_calls (ao : Option Addr) (n cap : Nat) (l : List Sl) (w : World) (hl : Lay fS w ao n l) (hn : n ≤ 1000) :
    Calls Try.prog 51 #[.agg #[.slice ao n cap]] w fun e w' => RetM w (mkRes l) (mkS l) (mkG l) (mkErr l) e w' := by
  have hlen := hl.len
  cases ho : arOk l
  · have he : mkErr l = 8 := by rw [mkErr, ho]; rfl
    rw [mkS, mkG, mkRes, he]
    go_enter Try.func51, Try.ntmps51
    go_wp2_with (go_at_call 74; refine (plus_post (amay_calls _ _ _ l _ (hl.ex (by with_reducible repeat (first | exact ex_refl _ | exact ex_more | apply ex_alloc | apply ex_plus | apply ex_drew | apply ex_drewN))) (by omega))).mono ?_; rintro e w' ⟨rfl, nx, rfl⟩; rw [ho])
    exact bodyPost_ret (v := .tuple #[.agg #[.slice none 0 0], .agg #[.int .i64 0, .int .i64 0], .int .i64 8]) (by simp [results, Try.results51, go_sem, ↓IntWalk.iteOmega]) rfl ⟨none, 0, rfl, (by with_reducible repeat (first | exact ex_refl _ | exact ex_more | apply ex_alloc | apply ex_plus | apply ex_drew | apply ex_drewN)), own_nil⟩
  have h128 := arOk_len ho
  have iwn : IntKind.i64.wrap ((n : Int) + 1) = (n : Int) + 1 := wrap_le (by omega)
  go_enter Try.func51, Try.ntmps51
  go_wp2_with (first | (go_at_call 74; refine (plus_post (amay_calls _ _ _ l _ (hl.ex (by with_reducible repeat (first | exact ex_refl _ | exact ex_more | apply ex_alloc | apply ex_plus | apply ex_drew | apply ex_drewN))) (by omega))).mono ?_; rintro e w' ⟨rfl, nx, rfl⟩; rw [ho]) | (go_at_call 48; refine (atwin_calls _ _ _ l _ (hl.ex (by with_reducible repeat (first | exact ex_refl _ | exact ex_more | apply ex_alloc | apply ex_plus | apply ex_drew | apply ex_drewN))) (by omega)).mono ?_; rintro e w1 ⟨a1, c1, rfl, hw1, o1⟩; have hr1 : w1.heap[w.heap.size + 1]? = some (.cells #[.slice none 0 0] 24) := blk_ex (w := (w.alloc (.cells #[.slice ao n cap] 24)).alloc (.cells #[.slice none 0 0] 24)) (by with_reducible repeat (first | exact ex_refl _ | exact ex_more | apply ex_alloc | apply ex_plus | apply ex_drew | apply ex_drewN | (apply ex_on; assumption))) (by rw [blk_alloc, if_pos (by simp [go_sem])]); have hr2 : w1.heap[w.heap.size + 1 + 1]? = some (.cells #[.int .i64 0, .int .i64 0] 29) := blk_ex (w := ((w.alloc (.cells #[.slice ao n cap] 24)).alloc (.cells #[.slice none 0 0] 24)).alloc (.cells #[.int .i64 0, .int .i64 0] 29)) (by with_reducible repeat (first | exact ex_refl _ | exact ex_more | apply ex_alloc | apply ex_plus | apply ex_drew | apply ex_drewN | (apply ex_on; assumption))) (by rw [blk_alloc, if_pos (by simp [go_sem])]); have hrl := blk_lt hr2))
  go_loopw [6] (fun i wr => ∃ k : Nat, k ≤ n ∧ i = .int .i64 k ∧ (∀ j, j < k → freeS (nth dSl l j) = false) ∧ ∃ x, wr = plus (w1.alloc (.cells #[.slice a1 n c1] 24)) x) (fun i _ => n - (intOf i).toNat)
  case atStart => exact ⟨0, Nat.zero_le _, rfl, fun j hj => by omega, (by with_reducible repeat (first | exact ex_refl _ | exact ex_more | apply ex_alloc | apply ex_plus | apply ex_drew | apply ex_drewN))⟩
  case round =>
    obtain ⟨k, hk, rfl, hs, x, rfl⟩ := hrel
    by_cases hkl : k < n
    · have ik : (k : Int) < (n : Int) := by omega
      obtain ⟨g1, cur, rfl, hg1, hb1, hsz⟩ := o1.blk (by omega)
      obtain ⟨_, _, eqa, hlt1, hc1⟩ := o1.lay.some (by omega)
      cases eqa
      obtain ⟨x0, x1⟩ := cellS o1.1 hc1 (k := k) hkl
      rw [Nat.zero_add] at x0 x1
      have z0 := frozen_blk (i := k * 2) hb1
      have z1 := frozen_blk (i := k * 2 + 1) hb1
      cases hv : (nth dSl l k).live
      rotate_left
      · rw [hv] at x1
        go_wp2
        go_roundw
        case rel => exact ⟨k + 1, by omega, by go_num, upto_succ hs (by simp [freeS, hv]), (by with_reducible repeat (first | exact ex_refl _ | exact ex_more | apply ex_alloc | apply ex_plus | apply ex_drew | apply ex_drewN))⟩
        case measure => simp [intOf]; omega
      rw [hv] at x1
      by_cases hgm : (nth dSl l k).gen < 1073741824
      rotate_left
      · have dg := decide_eq_false hgm
        go_wp2
        go_roundw
        case rel => exact ⟨k + 1, by omega, by go_num, upto_succ hs (by simp [freeS, hv]; omega), (by with_reducible repeat (first | exact ex_refl _ | exact ex_more | apply ex_alloc | apply ex_plus | apply ex_drew | apply ex_drewN))⟩
        case measure => simp [intOf]; omega
      have hge := (arOk_at ho (k := k) (by omega)).1
      have iwg : IntKind.i64.wrap ((nth dSl l k).gen + 1) = (nth dSl l k).gen + 1 := wrap_le (by omega)
      go_wp2
      have hgw : w.heap.size ≤ g1 := by simp [go_sem] at hg1; omega
      have hfa : freeAt l = k := freeAt_is (by omega) hs (fun _ => by simp [freeS, hv]; omega)
      have he : mkErr l = 0 := by rw [mkErr, if_pos ho, if_pos (by omega)]
      have hml : mkList l = l.set k ⟨(nth dSl l k).gen + 1, true⟩ := by rw [mkList, if_pos (by omega), hfa]
      have hmg : mkGen l = (nth dSl l k).gen + 1 := by rw [mkGen, if_pos (by omega), hfa]
      have hmS : mkSlot l = k := by rw [mkSlot, hfa]
      have n1 : g1 ≠ w.heap.size + 1 := by
        intro e0
        rw [e0, hr1] at hb1
        cases hb1
      have n2 : g1 ≠ w.heap.size + 1 + 1 := by
        intro e0
        rw [e0, hr2] at hb1
        cases hb1
      have o2 := (o1.set_self (u := .bool true) k 1 ⟨(nth dSl l k).gen, true⟩ dSl hkl fS_c (by decide) rfl).set_self (u := .int .i64 ((nth dSl l k).gen + 1)) k 0 ⟨(nth dSl l k).gen + 1, true⟩ dSl hkl fS_c (by decide) (by rw [nth_set' (by omega), if_pos rfl]; rfl)
      rw [List.set_set, Nat.add_zero] at o2
      have r1 : ((w1.setCell ⟨g1, k * 2 + 1, none⟩ (.bool true)).setCell ⟨g1, k * 2, none⟩ (.int .i64 ((nth dSl l k).gen + 1))).heap[w.heap.size + 1]? = _ := (blk_set_ne n1).trans ((blk_set_ne n1).trans hr1)
      have r2 : ((w1.setCell ⟨g1, k * 2 + 1, none⟩ (.bool true)).setCell ⟨g1, k * 2, none⟩ (.int .i64 ((nth dSl l k).gen + 1))).heap[w.heap.size + 1 + 1]? = _ := (blk_set_ne n2).trans ((blk_set_ne n2).trans hr2)
      have hsz2 : ((w1.setCell ⟨g1, k * 2 + 1, none⟩ (.bool true)).setCell ⟨g1, k * 2, none⟩ (.int .i64 ((nth dSl l k).gen + 1))).heap.size = w1.heap.size := by rw [size_set, size_set]
      have hx2 : ∃ y, (w1.setCell ⟨g1, k * 2 + 1, none⟩ (.bool true)).setCell ⟨g1, k * 2, none⟩ (.int .i64 ((nth dSl l k).gen + 1)) = plus w y := ex_set_new (ex_set_new (by with_reducible repeat (first | exact ex_refl _ | exact ex_more | apply ex_alloc | apply ex_plus | apply ex_drew | apply ex_drewN | (apply ex_on; assumption))) hgw) hgw
      clear x0 x1 z0 z1 hb1 hc1 hr1 hr2
      generalize (w1.setCell ⟨g1, k * 2 + 1, none⟩ (.bool true)).setCell ⟨g1, k * 2, none⟩ (.int .i64 ((nth dSl l k).gen + 1)) = w2 at *
      obtain ⟨_, _, eqa, _, hc2⟩ := o2.lay.some (by omega)
      cases eqa
      obtain ⟨x0, _⟩ := cellS o2.1 hc2 (k := k) hkl
      rw [Nat.zero_add, nth_set' (by omega), if_pos rfl] at x0
      simp only at x0
      have f0 : (plus (w2.alloc (.cells #[.slice (some ⟨g1, 0, none⟩) n c1] 24)) x).cell? ⟨w1.heap.size, 0, none⟩ = some (.slice (some ⟨g1, 0, none⟩) n c1) := by simp [go_sem, hsz2, ↓IntWalk.iteOmega]
      have f1 := cell_ex (ex_plus (y := x) (ex_alloc (o := (.cells #[.slice (some ⟨g1, 0, none⟩) n c1] 24)) (ex_refl w2))) x0
      have r1' := blk_ex (ex_plus (y := x) (ex_alloc (o := (.cells #[.slice (some ⟨g1, 0, none⟩) n c1] 24)) (ex_refl w2))) r1
      have r2' := blk_ex (ex_plus (y := x) (ex_alloc (o := (.cells #[.slice (some ⟨g1, 0, none⟩) n c1] 24)) (ex_refl w2))) r2
      have o3 := o2.ex (ex_plus (y := x) (ex_alloc (o := (.cells #[.slice (some ⟨g1, 0, none⟩) n c1] 24)) (ex_refl w2)))
      have hx3 := ex_plus (y := x) (ex_alloc (o := (.cells #[.slice (some ⟨g1, 0, none⟩) n c1] 24)) hx2)
      clear r1 r2 o2 hx2 x0 hc2
      have nq1 : w1.heap.size ≠ w.heap.size + 1 := by omega
      have nq2 : w1.heap.size ≠ w.heap.size + 1 + 1 := by omega
      have nb : w.heap.size + 1 ≠ w.heap.size + 1 + 1 := by omega
      generalize plus (w2.alloc (.cells #[.slice (some ⟨g1, 0, none⟩) n c1] 24)) x = w3 at *
      refine region_relG 12 m10S (m10Φ w1.heap.size g1 n c1 k ((nth dSl l k).gen + 1) (w.heap.size + 1) (.cells #[.slice (some ⟨g1, 0, none⟩) n c1] 24) (w.heap.size + 1 + 1) (.cells #[.int .i64 k, .int .i64 ((nth dSl l k).gen + 1)] 29)) (Two (w.heap.size + 1) (.cells #[.slice (some ⟨g1, 0, none⟩) n c1] 24) (w.heap.size + 1 + 1) (.cells #[.int .i64 k, .int .i64 ((nth dSl l k).gen + 1)] 29)) two_trans (two_draw _) (by kernel_rfl) (by kernel_rfl) (by decide) (m10Φ_mono _ _ _ _ _ _ _ _ _ _) ?steps ?fin
      case steps =>
        refine ⟨?_, ?_, ?_, ?_, ?_, ?_, ?_, ?_, ?_, ?_, ?_, ?_, trivial⟩
        · intro a w' hg hfree hdeep
          have f5' := hfree 5 (by kernel_rfl)
          have e0 := two_cell hg f0 (by omega) (by omega)
          simp only [m10Φ, got] at f5'
          simp [go_sem] at f5'
          unfold Oper.wp
          simp [go_sem, execOp, Act.eval, ↓IntWalk.iteOmega, f5', e0]
          exact ⟨_, rfl, two_refl _, by simp [m10Φ, upd]⟩
        · intro a w' hg hfree hdeep
          have f6' := hfree 6 (by kernel_rfl)
          simp only [m10Φ, got] at f6'
          simp [go_sem] at f6'
          unfold Oper.wp
          simp [go_sem, execOp, Act.eval, ↓IntWalk.iteOmega, f6']
          exact ⟨_, rfl, two_refl _, by simp [m10Φ, upd]⟩
        · intro a w' hg hfree hdeep
          have f5' := hfree 5 (by kernel_rfl)
          simp only [m10Φ, got] at f5'
          simp [go_sem] at f5'
          unfold Oper.wp
          simp [go_sem, execOp, Act.eval, ↓IntWalk.iteOmega, f5']
          exact ⟨_, rfl, two_refl _, by simp [m10Φ, upd]⟩
        · intro a w' hg hfree hdeep
          have d2 := hdeep 2 (by kernel_rfl)
          have e0 := two_cell hg f0 (by omega) (by omega)
          simp only [m10Φ, got] at d2
          unfold Oper.wp
          simp [go_sem, execOp, Act.eval, ↓IntWalk.iteOmega, d2, e0]
          exact ⟨_, rfl, two_refl _, by simp [m10Φ, upd]⟩
        · intro a w' hg hfree hdeep
          have f6' := hfree 6 (by kernel_rfl)
          simp only [m10Φ, got] at f6'
          simp [go_sem] at f6'
          unfold Oper.wp
          simp [go_sem, execOp, Act.eval, ↓IntWalk.iteOmega, f6']
          exact ⟨_, rfl, two_refl _, by simp [m10Φ, upd]⟩
        · intro a w' hg hfree hdeep
          have d3 := hdeep 3 (by kernel_rfl)
          have d4 := hdeep 4 (by kernel_rfl)
          simp only [m10Φ, got] at d3 d4
          unfold Oper.wp
          simp [go_sem, execOp, Act.eval, ↓IntWalk.iteOmega, d3, d4]
          exact ⟨_, rfl, two_refl _, by simp [m10Φ, upd]⟩
        · intro a w' hg hfree hdeep
          have d5 := hdeep 5 (by kernel_rfl)
          simp only [m10Φ, got] at d5
          unfold Oper.wp
          simp [go_sem, execOp, Act.eval, ↓IntWalk.iteOmega, d5]
          exact ⟨_, rfl, two_refl _, by simp [m10Φ, upd]⟩
        · intro a w' hg hfree hdeep
          have d6 := hdeep 6 (by kernel_rfl)
          have e1 := two_cell hg f1 (by omega) (by omega)
          simp only [m10Φ, got] at d6
          unfold Oper.wp
          simp [go_sem, execOp, Act.eval, ↓IntWalk.iteOmega, d6, e1]
          exact ⟨_, rfl, two_refl _, by simp [m10Φ, upd]⟩
        · intro a w' hg hfree hdeep
          have d1 := hdeep 1 (by kernel_rfl)
          have d7 := hdeep 7 (by kernel_rfl)
          simp only [m10Φ, got] at d1 d7
          simp at d1 d7
          unfold Oper.wp
          simp [go_sem, execOp, Act.eval, ↓IntWalk.iteOmega, d1, d7]
          exact ⟨_, rfl, two_refl _, by simp [m10Φ, upd]⟩
        · intro a w' hg hfree hdeep
          have f2' := hfree 2 (by kernel_rfl)
          have d0 := hdeep 0 (by kernel_rfl)
          simp only [m10Φ, got] at f2' d0
          simp [go_sem] at f2'
          rcases two_one hg r1' with hb | hb
          · have c0' := cell_blk (i := 0) hb rfl; have z0' := frozen_blk (i := 0) hb
            unfold Oper.wp
            simp [go_sem, execOp, Act.eval, f2', d0, c0', z0']
            exact ⟨two_set1 nb (blk_set_eq hb), undef, (blk_set_eq hb)⟩
          · have c0' := cell_blk (i := 0) hb rfl; have z0' := frozen_blk (i := 0) hb
            unfold Oper.wp
            simp [go_sem, execOp, Act.eval, f2', d0, c0', z0']
            exact ⟨two_set1 nb (blk_set_eq hb), undef, (blk_set_eq hb)⟩
        · intro a w' hg hfree hdeep
          have f3' := hfree 3 (by kernel_rfl)
          have d8 := hdeep 8 (by kernel_rfl)
          simp only [m10Φ, got] at f3' d8
          simp [go_sem] at f3'
          rcases two_two hg r2' with hb | hb
          · have c0' := cell_blk (i := 0) hb rfl; have z0' := frozen_blk (i := 0) hb; have c1' := cell_blk (i := 1) hb rfl; have z1' := frozen_blk (i := 1) hb
            unfold Oper.wp
            simp [go_sem, execOp, Act.eval, f3', d8, c0', z0', c1', z1']
            exact ⟨two_set2 nb (blk_set_eq (blk_set_eq hb)), undef, (blk_set_eq (blk_set_eq hb))⟩
          · have c0' := cell_blk (i := 0) hb rfl; have z0' := frozen_blk (i := 0) hb; have c1' := cell_blk (i := 1) hb rfl; have z1' := frozen_blk (i := 1) hb
            unfold Oper.wp
            simp [go_sem, execOp, Act.eval, f3', d8, c0', z0', c1', z1']
            exact ⟨two_set2 nb (blk_set_eq (blk_set_eq hb)), undef, (blk_set_eq (blk_set_eq hb))⟩
        · intro a w' hg hfree hdeep
          unfold Oper.wp
          simp [go_sem, execOp, Act.eval, ↓IntWalk.iteOmega]
          exact ⟨_, rfl, two_refl _, by simp [m10Φ, upd]⟩
      case fin =>
        rintro t w4 hg hΦ
        have h9 := hΦ 9 (by decide)
        have h10 := hΦ 10 (by decide)
        simp only [m10Φ] at h9 h10
        have o4 := o3.two hg r1' r2' (by decide) (by decide)
        have hx4 := two_ex hg hx3 (by omega) (by omega)
        have h11 := hΦ 11 (by decide)
        simp only [m10Φ] at h11
        simp only [putAll, List.take_succ_cons, List.take_zero, List.take_nil, Act.put]
        simp only [List.setIfInBounds_toArray, List.set_cons_succ, List.set_cons_zero, h11]
        simp only [List.drop_succ_cons, List.drop_zero]
        clear hΦ hg o3 hx3 f0 f1 r1' r2'
        have c0 := cell_blk (i := 0) h9 rfl
        have c1' := cell_blk (i := 0) h10 rfl
        have c2' := cell_blk (i := 1) h10 rfl
        go_wp2
        have hpost : RetM w (mkRes l) (mkS l) (mkG l) (mkErr l) (.returned (.tuple #[.agg #[.slice (some ⟨g1, 0, none⟩) n c1], .agg #[.int .i64 k, .int .i64 ((nth dSl l k).gen + 1)], .int .i64 0])) w4 := by
          rw [mkRes, mkS, mkG, if_pos he, if_pos he, if_pos he, he, hml, hmg, hmS]
          exact ⟨some ⟨g1, 0, none⟩, c1, by rw [List.length_set, hlen], hx4, by rw [List.length_set, hlen]; exact o4.base (by simp [go_sem]; omega)⟩
        exact bodyPost_ret (v := .tuple #[.agg #[.slice (some ⟨g1, 0, none⟩) n c1], .agg #[.int .i64 k, .int .i64 ((nth dSl l k).gen + 1)], .int .i64 0]) (by simp [results, Try.results51, go_sem, c0, c1', c2']) rfl hpost
    · have ik : ¬ (k : Int) < (n : Int) := by omega
      have hkn : k = n := by omega
      have hfa : freeAt l = n := freeAt_is (by omega) (fun j hj => hs j (by omega)) (fun h => by omega)
      have u0 := cell_blk (i := 0) hr1 rfl
      have u1 := cell_blk (i := 0) hr2 rfl
      have u2 := cell_blk (i := 1) hr2 rfl
      have v0 := frozen_blk (i := 0) hr1
      have v1 := frozen_blk (i := 0) hr2
      have v2 := frozen_blk (i := 1) hr2
      by_cases h8 : n = 128
      · have i8 : (n : Int) = 128 := by omega
        have he : mkErr l = 9 := by rw [mkErr, if_pos ho, if_neg (by omega), if_pos (by omega)]
        go_wp2
        have nb : w.heap.size + 1 + 1 ≠ w.heap.size + 1 := by omega
        have nb' : w.heap.size + 1 ≠ w.heap.size + 1 + 1 := by omega
        have p1 : (((w1.setCell ⟨w.heap.size + 1, 0, none⟩ (.slice none 0 0)).setCell ⟨w.heap.size + 1 + 1, 0, none⟩ (.int .i64 0)).setCell ⟨w.heap.size + 1 + 1, 1, none⟩ (.int .i64 0)).heap[w.heap.size + 1]? = some (.cells #[.slice none 0 0] 24) := (blk_set_ne nb).trans ((blk_set_ne nb).trans (blk_set_eq hr1))
        have p2 : (((w1.setCell ⟨w.heap.size + 1, 0, none⟩ (.slice none 0 0)).setCell ⟨w.heap.size + 1 + 1, 0, none⟩ (.int .i64 0)).setCell ⟨w.heap.size + 1 + 1, 1, none⟩ (.int .i64 0)).heap[w.heap.size + 1 + 1]? = some (.cells #[.int .i64 0, .int .i64 0] 29) := blk_set_eq (blk_set_eq ((blk_set_ne nb').trans hr2))
        have hx2 : ∃ y, ((w1.setCell ⟨w.heap.size + 1, 0, none⟩ (.slice none 0 0)).setCell ⟨w.heap.size + 1 + 1, 0, none⟩ (.int .i64 0)).setCell ⟨w.heap.size + 1 + 1, 1, none⟩ (.int .i64 0) = plus w y := ex_set_new (ex_set_new (ex_set_new (by with_reducible repeat (first | exact ex_refl _ | exact ex_more | apply ex_alloc | apply ex_plus | apply ex_drew | apply ex_drewN | (apply ex_on; assumption))) (by omega)) (by omega)) (by omega)
        clear u0 u1 u2 v0 v1 v2 hr1 hr2
        generalize ((w1.setCell ⟨w.heap.size + 1, 0, none⟩ (.slice none 0 0)).setCell ⟨w.heap.size + 1 + 1, 0, none⟩ (.int .i64 0)).setCell ⟨w.heap.size + 1 + 1, 1, none⟩ (.int .i64 0) = w2 at *
        have hp1 := blk_lt p1
        have hp2 := blk_lt p2
        have c0 := cell_blk (i := 0) p1 rfl
        have c1' := cell_blk (i := 0) p2 rfl
        have c2' := cell_blk (i := 1) p2 rfl
        have hpost : ∀ w4, (∃ y, w4 = plus w y) → RetM w (mkRes l) (mkS l) (mkG l) 9 (.returned (.tuple #[.agg #[.slice none 0 0], .agg #[.int .i64 0, .int .i64 0], .int .i64 9])) w4 := by
          intro w4 h4
          rw [mkRes, mkS, mkG, he]
          exact ⟨none, 0, rfl, h4, own_nil⟩
        exact bodyPost_ret (v := .tuple #[.agg #[.slice none 0 0], .agg #[.int .i64 0, .int .i64 0], .int .i64 9]) (by simp [results, Try.results51, go_sem, ↓IntWalk.iteOmega, c0, c1', c2']) rfl (hpost _ (ex_plus (ex_alloc hx2)))
      · have i8 : ¬ (n : Int) = 128 := by omega
        have d8 : ((n : Int) == 128) = false := by rw [beq_eq_false_iff_ne]; exact i8
        have he : mkErr l = 0 := by rw [mkErr, if_pos ho, if_neg (by omega), if_neg (by omega)]
        have hml : mkList l = l ++ [⟨1, true⟩] := by rw [mkList, if_neg (by omega)]
        have hmg : mkGen l = 1 := by rw [mkGen, if_neg (by omega)]
        have hmS : mkSlot l = n := by rw [mkSlot, hfa]
        have ow := o1.base (T' := w) (by simp [go_sem]; omega)
        go_wp2_with (at_builtin; refine wpList_append_lay2 (T := w) rfl _ _ rfl kinS fS_c fS_1 rfl (by with_reducible repeat (first | exact ex_refl _ | exact ex_more | apply ex_alloc | apply ex_plus | apply ex_drew | apply ex_drewN | (apply ex_on; assumption))) (ow.ex (by with_reducible repeat (first | exact ex_refl _ | exact ex_more | apply ex_alloc | apply ex_plus | apply ex_drew | apply ex_drewN))) rfl (l2 := [⟨1, true⟩]) ⟨rfl, .inr ⟨_, 0, rfl, by (simp [go_sem]; try omega), fun jj u hu => by match jj, hu with | 0, hu => (simp [fS] at hu; subst hu; simp [go_sem, ↓IntWalk.iteOmega]) | 1, hu => (simp [fS] at hu; subst hu; simp [go_sem, ↓IntWalk.iteOmega]) | jj + 2, hu => simp [fS] at hu⟩⟩ (by omega) (by decide) ?_; intro a4 c4 w4 o4 hx4 hgr4; have bx := grown_blk (g := w1.heap.size) hgr4 (ow.ex (by with_reducible repeat (first | exact ex_refl _ | exact ex_more | apply ex_alloc | apply ex_plus | apply ex_drew | apply ex_drewN))) (blk_ex (w := w1.alloc (.cells #[.slice a1 n c1] 24)) (by with_reducible repeat (first | exact ex_refl _ | exact ex_more | apply ex_alloc | apply ex_plus | apply ex_drew | apply ex_drewN)) (by rw [blk_alloc, if_pos rfl])) (by decide); have b1 := grown_blk hgr4 (ow.ex (by with_reducible repeat (first | exact ex_refl _ | exact ex_more | apply ex_alloc | apply ex_plus | apply ex_drew | apply ex_drewN))) (blk_ex (by with_reducible repeat (first | exact ex_refl _ | exact ex_more | apply ex_alloc | apply ex_plus | apply ex_drew | apply ex_drewN)) hr1) (by decide); have b2 := grown_blk hgr4 (ow.ex (by with_reducible repeat (first | exact ex_refl _ | exact ex_more | apply ex_alloc | apply ex_plus | apply ex_drew | apply ex_drewN))) (blk_ex (by with_reducible repeat (first | exact ex_refl _ | exact ex_more | apply ex_alloc | apply ex_plus | apply ex_drew | apply ex_drewN)) hr2) (by decide); clear u0 u1 u2 v0 v1 v2; have u0 := cell_blk (i := 0) b1 rfl; have u1 := cell_blk (i := 0) b2 rfl; have u2 := cell_blk (i := 1) b2 rfl; have u3 := cell_blk (i := 0) bx rfl; have v0 := frozen_blk (i := 0) b1; have v1 := frozen_blk (i := 0) b2; have v2 := frozen_blk (i := 1) b2; have v3 := frozen_blk (i := 0) bx; have lx := blk_lt bx; have l2 := blk_lt b2)
        have nx1 : w1.heap.size ≠ w.heap.size + 1 := by omega
        have nx2 : w1.heap.size ≠ w.heap.size + 1 + 1 := by omega
        have nb : w.heap.size + 1 + 1 ≠ w.heap.size + 1 := by omega
        have nb' : w.heap.size + 1 ≠ w.heap.size + 1 + 1 := by omega
        have p1 : ((((w4.setCell ⟨w1.heap.size, 0, none⟩ (.slice a4 (n + 1) c4)).setCell ⟨w.heap.size + 1, 0, none⟩ (.slice a4 (n + 1) c4)).setCell ⟨w.heap.size + 1 + 1, 0, none⟩ (.int .i64 n)).setCell ⟨w.heap.size + 1 + 1, 1, none⟩ (.int .i64 1)).heap[w.heap.size + 1]? = some (.cells #[.slice a4 (n + 1) c4] 24) := (blk_set_ne nb).trans ((blk_set_ne nb).trans (blk_set_eq ((blk_set_ne nx1).trans b1)))
        have p2 : ((((w4.setCell ⟨w1.heap.size, 0, none⟩ (.slice a4 (n + 1) c4)).setCell ⟨w.heap.size + 1, 0, none⟩ (.slice a4 (n + 1) c4)).setCell ⟨w.heap.size + 1 + 1, 0, none⟩ (.int .i64 n)).setCell ⟨w.heap.size + 1 + 1, 1, none⟩ (.int .i64 1)).heap[w.heap.size + 1 + 1]? = some (.cells #[.int .i64 n, .int .i64 1] 29) := blk_set_eq (blk_set_eq ((blk_set_ne nb').trans ((blk_set_ne nx2).trans b2)))
        have hx5 : ∃ y, (((w4.setCell ⟨w1.heap.size, 0, none⟩ (.slice a4 (n + 1) c4)).setCell ⟨w.heap.size + 1, 0, none⟩ (.slice a4 (n + 1) c4)).setCell ⟨w.heap.size + 1 + 1, 0, none⟩ (.int .i64 n)).setCell ⟨w.heap.size + 1 + 1, 1, none⟩ (.int .i64 1) = plus w y := ex_set_new (ex_set_new (ex_set_new (ex_set_new hx4 (by omega)) (by omega)) (by omega)) (by omega)
        have o5 := (((o4.set_other (i := 0) (u := .slice a4 (n + 1) c4) bx (by decide)).set_other (i := 0) (u := .slice a4 (n + 1) c4) ((blk_set_ne nx1).trans b1) (by decide)).set_other (i := 0) (u := .int .i64 n) ((blk_set_ne nb').trans ((blk_set_ne nx2).trans b2)) (by decide)).set_other (i := 1) (u := .int .i64 1) (blk_set_eq ((blk_set_ne nb').trans ((blk_set_ne nx2).trans b2))) (by decide)
        clear u0 u1 u2 u3 v0 v1 v2 v3 bx b1 b2 o4 hx4 hgr4
        generalize (((w4.setCell ⟨w1.heap.size, 0, none⟩ (.slice a4 (n + 1) c4)).setCell ⟨w.heap.size + 1, 0, none⟩ (.slice a4 (n + 1) c4)).setCell ⟨w.heap.size + 1 + 1, 0, none⟩ (.int .i64 n)).setCell ⟨w.heap.size + 1 + 1, 1, none⟩ (.int .i64 1) = w5 at *
        have c0 := cell_blk (i := 0) p1 rfl
        have c1' := cell_blk (i := 0) p2 rfl
        have c2' := cell_blk (i := 1) p2 rfl
        have hpost : RetM w (mkRes l) (mkS l) (mkG l) 0 (.returned (.tuple #[.agg #[.slice a4 (n + 1) c4], .agg #[.int .i64 n, .int .i64 1], .int .i64 0])) w5 := by
          rw [mkRes, mkS, mkG, if_pos he, if_pos he, if_pos he, hml, hmg, hmS]
          exact ⟨a4, c4, by rw [List.length_append, hlen]; rfl, hx5, by rw [List.length_append, hlen]; exact o5⟩
        exact bodyPost_ret (v := .tuple #[.agg #[.slice a4 (n + 1) c4], .agg #[.int .i64 n, .int .i64 1], .int .i64 0]) (by simp [results, Try.results51, go_sem, c0, c1', c2']) rfl hpost

end Go.Proofs.Ytmmflpjfgapaaaa
