/- What dioramaref05.Kill gives. -/
import Derived.Test.YtmmflpjfgapaaaaArena3
namespace Go.Proofs.Ytmmflpjfgapaaaa
open Go.RowKit Go.ChangeShapes Go.WideShapes Go.ChangeAt
set_option linter.unusedSimpArgs false
set_option linter.unusedVariables false
attribute [local go_sem] plus_size plus_drew dn_set dn_alloc dn_plus plus_dn cell_plus frozen_plus set_plus cell_alloc frozen_alloc set_alloc

def killRes (l : List Sl) (s g : Int) : List Sl := if killErr l s g = 0 then killList l s else []
/-- an arena in new memory, and an error -/
def RetA (w : World) (l : List Sl) (r : Int) (e : Ending) (w' : World) : Prop := ∃ ao' cap', e = .returned (.tuple #[.agg #[.slice ao' l.length cap'], .int .i64 r]) ∧ (∃ y, w' = plus w y) ∧ Own 67 2 fS w w' ao' l.length cap' l

set_option maxHeartbeats 4000000 in
theorem rkill_calls (ao : Option Addr) (n cap : Nat) (l : List Sl) (s g : Int) (w : World) (hl : Lay fS w ao n l) (hn : n ≤ 1000) :
    Calls Try.prog 53 #[.agg #[.slice ao n cap], .agg #[.int .i64 s, .int .i64 g]] w fun e w' => RetA w (killRes l s g) (killErr l s g) e w' := by
  have hlen := hl.len
  cases ho : arOk l
  · have he : killErr l s g = 8 := by rw [killErr, ho]; rfl
    rw [he, show killRes l s g = [] by rw [killRes, he]; rfl]
    go_enter Try.func53, Try.ntmps53
    go_wp2_with (go_at_call 74; refine (plus_post (amay_calls _ _ _ l _ (hl.ex (by with_reducible repeat (first | exact ex_refl _ | exact ex_more | apply ex_alloc | apply ex_plus | apply ex_drew | apply ex_drewN))) (by omega))).mono ?_; rintro e w' ⟨rfl, nx, rfl⟩; rw [ho])
    exact bodyPost_ret (v := .tuple #[.agg #[.slice none 0 0], .int .i64 8]) (by simp [results, Try.results53, go_sem, ↓IntWalk.iteOmega]) rfl ⟨none, 0, rfl, (by with_reducible repeat (first | exact ex_refl _ | exact ex_more | apply ex_alloc | apply ex_plus | apply ex_drew | apply ex_drewN)), own_nil⟩
  cases hh : heldIn l s g
  · have he : killErr l s g = 50 := by rw [killErr, ho, hh]; rfl
    rw [he, show killRes l s g = [] by rw [killRes, he]; rfl]
    go_enter Try.func53, Try.ntmps53
    go_wp2_with (first | (go_at_call 74; refine (plus_post (amay_calls _ _ _ l _ (hl.ex (by with_reducible repeat (first | exact ex_refl _ | exact ex_more | apply ex_alloc | apply ex_plus | apply ex_drew | apply ex_drewN))) (by omega))).mono ?_; rintro e w' ⟨rfl, nx, rfl⟩; rw [ho]) | (go_at_call 75; refine (plus_post (aheld_calls _ _ _ l _ _ _ (hl.ex (by with_reducible repeat (first | exact ex_refl _ | exact ex_more | apply ex_alloc | apply ex_plus | apply ex_drew | apply ex_drewN))) (by omega))).mono ?_; rintro e w' ⟨rfl, nx, rfl⟩; rw [hh]))
    exact bodyPost_ret (v := .tuple #[.agg #[.slice none 0 0], .int .i64 50]) (by simp [results, Try.results53, go_sem, ↓IntWalk.iteOmega]) rfl ⟨none, 0, rfl, (by with_reducible repeat (first | exact ex_refl _ | exact ex_more | apply ex_alloc | apply ex_plus | apply ex_drew | apply ex_drewN)), own_nil⟩
  have he : killErr l s g = 0 := by rw [killErr, ho, hh]; rfl
  rw [he, show killRes l s g = killList l s by rw [killRes, he]; rfl]
  obtain ⟨⟨s0, s1⟩, _⟩ := held_spec.1 hh
  obtain ⟨k, rfl⟩ : ∃ k : Nat, s = (k : Int) := ⟨s.toNat, by omega⟩
  have hk : k < n := by omega
  have ik : (k : Int) < (n : Int) := by omega
  have hkl : (killList l (k : Int)).length = n := by rw [killList, List.length_set]; exact hlen
  go_enter Try.func53, Try.ntmps53
  go_wp2_with (first | (go_at_call 74; refine (plus_post (amay_calls _ _ _ l _ (hl.ex (by with_reducible repeat (first | exact ex_refl _ | exact ex_more | apply ex_alloc | apply ex_plus | apply ex_drew | apply ex_drewN))) (by omega))).mono ?_; rintro e w' ⟨rfl, nx, rfl⟩; rw [ho]) | (go_at_call 75; refine (plus_post (aheld_calls _ _ _ l _ _ _ (hl.ex (by with_reducible repeat (first | exact ex_refl _ | exact ex_more | apply ex_alloc | apply ex_plus | apply ex_drew | apply ex_drewN))) (by omega))).mono ?_; rintro e w' ⟨rfl, nx, rfl⟩; rw [hh]) | (go_at_call 48; refine (atwin_calls _ _ _ l _ (hl.ex (by with_reducible repeat (first | exact ex_refl _ | exact ex_more | apply ex_alloc | apply ex_plus | apply ex_drew | apply ex_drewN))) (by omega)).mono ?_; rintro e w1 ⟨a1, c1, rfl, hw1, o1⟩; have b0 : w1.cell? ⟨w.heap.size + 1, 0, none⟩ = some (.int .i64 k) := cell_ex hw1 (by simp [go_sem, ↓IntWalk.iteOmega]); have hres : w1.heap[w.heap.size + 1 + 1]? = some (.cells #[.slice none 0 0] 24) := blk_ex (w := ((w.alloc (.cells #[.slice ao n cap] 24)).alloc (.cells #[.int .i64 k, .int .i64 g] 29)).alloc (.cells #[.slice none 0 0] 24)) (by with_reducible repeat (first | exact ex_refl _ | exact ex_more | apply ex_alloc | apply ex_plus | apply ex_drew | apply ex_drewN | (apply ex_on; assumption))) (by rw [blk_alloc, if_pos (by simp [go_sem])]); obtain ⟨g1, cur, rfl, hg1, hb1, hsz⟩ := o1.blk (by omega); obtain ⟨_, _, eqa, hlt1, hc1⟩ := o1.lay.some (by omega); cases eqa; obtain ⟨x0, x1⟩ := cellS o1.1 hc1 (k := k) hk; rw [Nat.zero_add] at x0 x1; have z1 := frozen_blk (i := k * 2 + 1) hb1; have y0 := cell_blk (i := 0) hres rfl; have zy := frozen_blk (i := 0) hres; have hrl := blk_lt hres))
  have hgw : w.heap.size ≤ g1 := by simp [go_sem] at hg1; omega
  have hne : g1 ≠ w.heap.size + 1 + 1 := by
    intro e0
    rw [e0, hres] at hb1
    cases hb1
  have o2 := o1.set_self (u := .bool false) k 1 ⟨(nth dSl l k).gen, false⟩ dSl hk fS_c (by decide) rfl
  have hres2 : (w1.setCell ⟨g1, k * 2 + 1, none⟩ (.bool false)).heap[w.heap.size + 1 + 1]? = _ := (blk_set_ne hne).trans hres
  have o3 := (o2.set_other (i := 0) (u := .slice (some ⟨g1, 0, none⟩) n c1) hres2 (by decide)).ex (ex_alloc (o := .cells #[.slice (some ⟨g1, 0, none⟩) n c1] 24) (ex_refl _))
  have hres3 := blk_ex (ex_alloc (o := .cells #[.slice (some ⟨g1, 0, none⟩) n c1] 24) (ex_refl _)) (blk_set_eq (i := 0) (u := .slice (some ⟨g1, 0, none⟩) n c1) hres2)
  have hx3 : ∃ y, ((w1.setCell ⟨g1, k * 2 + 1, none⟩ (.bool false)).setCell ⟨w.heap.size + 1 + 1, 0, none⟩ (.slice (some ⟨g1, 0, none⟩) n c1)).alloc (.cells #[.slice (some ⟨g1, 0, none⟩) n c1] 24) = plus w y := ex_alloc (ex_set_new (ex_set_new (by with_reducible repeat (first | exact ex_refl _ | exact ex_more | apply ex_alloc | apply ex_plus | apply ex_drew | apply ex_drewN | (apply ex_on; assumption))) hgw) (by omega))
  generalize ((w1.setCell ⟨g1, k * 2 + 1, none⟩ (.bool false)).setCell ⟨w.heap.size + 1 + 1, 0, none⟩ (.slice (some ⟨g1, 0, none⟩) n c1)).alloc (.cells #[.slice (some ⟨g1, 0, none⟩) n c1] 24) = w4 at *
  have c0 := cell_blk (i := 0) hres3 rfl
  exact bodyPost_ret (v := .tuple #[.agg #[.slice (some ⟨g1, 0, none⟩) n c1], .int .i64 0]) (by simp [results, Try.results53, go_sem, c0]) rfl ⟨some ⟨g1, 0, none⟩, c1, by rw [hkl], hx3, by rw [hkl]; exact o3.base (by simp [go_sem]; omega)⟩

end Go.Proofs.Ytmmflpjfgapaaaa
