/- ArenaGoes is proved: whether an arena may be, what is made, killed, held, and all of it are the document's; what is handed in stays, what is answered is new memory: the call returns true for any two arenas and handle. No condition. -/
import Derived.Test.YtfeiggldjajmbaaArenaA
import Derived.Test.YtfeiggldjajmbaaLaw
import Derived.Test.YtfeiggldjajmbaaOpen3
namespace Go.Proofs.Ytfeiggldjajmbaa
open Go.RowKit Go.ChangeShapes Go.WideShapes Go.ChangeAt
set_option linter.unusedSimpArgs false
set_option linter.unusedVariables false
attribute [local go_sem] plus_size plus_drew dn_set dn_alloc dn_plus plus_dn cell_plus frozen_plus set_plus cell_alloc frozen_alloc set_alloc

section
variable {w : World} {ao ao2 : Option Addr} {n n2 cap cap2 : Nat} {l l2 : List Sl} {s g : Int}
theorem rsameA_any (h1 : Lay fS w ao n l) (h2 : Lay fS w ao2 n2 l2) (hn : l.length ≤ 10000) (hn2 : l2.length ≤ 10000) :
    Calls Try.prog 17 #[.agg #[.slice ao n cap], .agg #[.slice ao2 n2 cap2]] w fun e w' => e = .returned (.bool (sameS l l2)) ∧ Below w.heap.size w w' := rsameA_calls ao ao2 n n2 cap cap2 l l2 w h1 h2 (by rw [← h1.len]; exact hn) (by rw [← h2.len]; exact hn2)
theorem lsameA_any (h1 : Lay fS w ao n l) (h2 : Lay fS w ao2 n2 l2) (hn : l.length ≤ 10000) (hn2 : l2.length ≤ 10000) :
    Calls Try.prog 22 #[.agg #[.slice ao n cap], .agg #[.slice ao2 n2 cap2]] w fun e w' => e = .returned (.bool (sameS l l2)) ∧ Below w.heap.size w w' := lsame_calls ao ao2 n n2 cap cap2 l l2 w h1 h2 (by rw [← h1.len]; exact hn) (by rw [← h2.len]; exact hn2)
theorem acheck_err (hl : Lay fS w ao n l) (hn : n ≤ 10000) : Calls Try.prog 19 #[.agg #[.slice ao n cap]] w fun e w' => e = .returned (.int .i64 (allErr l)) ∧ Below w.heap.size w w' := acheck_calls ao n cap l w hl (by omega)
theorem lcheck_err (hl : Lay fS w ao n l) (hn : n ≤ 10000) : Calls Try.prog 10 #[.agg #[.slice ao n cap]] w fun e w' => e = .returned (.int .i64 (allErr l)) ∧ Below w.heap.size w w' := lcheck_calls ao n cap l w hl (by omega)
theorem aholds_any (hl : Lay fS w ao n l) (hn : n ≤ 10000) : Calls Try.prog 21 #[.agg #[.slice ao n cap], .agg #[.int .i64 s, .int .i64 g]] w fun e w' => e = .returned (.bool (holds l s g)) ∧ Below w.heap.size w w' := aholds_calls ao n cap l s g w hl (by omega)
theorem lholds_any (hl : Lay fS w ao n l) (hn : n ≤ 10000) : Calls Try.prog 20 #[.agg #[.slice ao n cap], .agg #[.int .i64 s, .int .i64 g]] w fun e w' => e = .returned (.bool (holds l s g)) ∧ Below w.heap.size w w' := lholds_calls ao n cap l s g w hl (by omega)
theorem sameH_self {L : List (Int × Int)} (h1 : Lay f2 w ao n L) (h2 : Lay f2 w ao2 n2 L) (hn : L.length ≤ 10000) :
    Calls Try.prog 18 #[.slice ao n cap, .slice ao2 n2 cap2] w fun e w' => e = .returned (.bool true) ∧ Below w.heap.size w w' := by
  have := sameH_calls ao ao2 n n2 cap cap2 L L w h1 h2 (by rw [← h1.len]; exact hn) (by rw [← h2.len]; exact hn)
  rwa [show same2 L L = true from same_refl eq2_refl _] at this
theorem sameS_self (l : List Sl) : sameS l l = true := same_refl eqS_refl _
theorem mkRes_le (l : List Sl) : (mkRes l).length ≤ l.length + 1 := by
  unfold mkRes
  split
  · unfold mkList
    split
    · rw [List.length_set]; omega
    · rw [List.length_append]; simp
  · simp
theorem killRes_le (l : List Sl) (s g : Int) : (killRes l s g).length ≤ l.length := by
  unfold killRes
  split
  · unfold killList
    rw [List.length_set]
    exact Nat.le_refl _
  · simp
theorem allList_le (l : List Sl) : (allList l).length ≤ l.length := by
  unfold allList
  split
  · exact allH_le l _
  · simp
end

/-- a list's block, whatever it holds -/
def Sh (T : World) (e : TypeId) (c : Nat) (w : World) (ao : Option Addr) (n : Nat) : Prop := n = 0 ∨ ∃ g cur, ao = some ⟨g, 0, none⟩ ∧ T.heap.size ≤ g ∧ w.heap[g]? = some (.cells cur e) ∧ n * c ≤ cur.size
theorem Own.sh {α : Type} {f : α → List Value} {w T : World} {ao : Option Addr} {n cap c : Nat} {l : List α} {e : TypeId} (h : Own e c f T w ao n cap l) : Sh T e c w ao n := by
  by_cases hn : n = 0
  · exact .inl hn
  · exact .inr (h.blk (by omega))
theorem Sh.set {w T : World} {ao : Option Addr} {n c g i : Nat} {e : TypeId} {u : Value} (h : Sh T e c w ao n) : Sh T e c (w.setCell ⟨g, i, none⟩ u) ao n := by
  refine h.imp id ?_
  rintro ⟨k, cur, h1, h2, h3, h4⟩
  by_cases e0 : g = k
  · subst e0
    exact ⟨g, _, h1, h2, blk_set_eq h3, by rw [Array.size_setIfInBounds]; exact h4⟩
  · exact ⟨k, cur, h1, h2, by rw [blk_set_ne e0]; exact h3, h4⟩
theorem blk_cell {w : World} {g i : Nat} {cur : Array Value} {e : TypeId} (h : w.heap[g]? = some (.cells cur e)) (hi : i < cur.size) : w.cell? ⟨g, i, none⟩ = some cur[i] := cell_blk h (by simp [hi])

/-- what is left of the three copies while they are written over -/
structure Rg (T : World) (bx bk bt : Nat) (xa ka ta : Option Addr) (xn xc kn kc tn tc : Nat) (w : World) : Prop where
  ex : ∃ y, w = plus T y
  x : w.heap[bx]? = some (.cells #[.slice xa xn xc] 24)
  k : w.heap[bk]? = some (.cells #[.slice ka kn kc] 24)
  t : w.heap[bt]? = some (.cells #[.slice ta tn tc] 24)
  sx : Sh T 33 2 w xa xn
  sk : Sh T 33 2 w ka kn
  st : Sh T 33 2 w ta tn
theorem Rg.set {T w : World} {bx bk bt : Nat} {xa ka ta : Option Addr} {xn xc kn kc tn tc g i : Nat} {cur : Array Value} {u : Value} (h : Rg T bx bk bt xa ka ta xn xc kn kc tn tc w) (hg : T.heap.size ≤ g) (hb : w.heap[g]? = some (.cells cur 33)) : Rg T bx bk bt xa ka ta xn xc kn kc tn tc (w.setCell ⟨g, i, none⟩ u) := by
  have hne : ∀ {b : Nat} {c : Array Value}, w.heap[b]? = some (.cells c 24) → (w.setCell ⟨g, i, none⟩ u).heap[b]? = some (.cells c 24) := by
    intro b c h1
    rw [blk_set_ne ?_]
    · exact h1
    · intro e0
      subst e0
      rw [h1] at hb
      cases hb
  exact ⟨ex_set_new h.ex hg, hne h.x, hne h.k, hne h.t, h.sx.set, h.sk.set, h.st.set⟩

theorem name_world {α : Type} {F : α → World → Prop} {a : α} {w : World} (p : World → Prop) (hp : p w) (h : ∀ w', p w' → F a w') : F a w := h w hp

set_option maxRecDepth 100000 in
set_option maxHeartbeats 8000000 in
theorem arenaGoes_walk (ao : Option Addr) (n cap : Nat) (l : List Sl) (ao2 : Option Addr) (n2 cap2 : Nat) (l2 : List Sl) (s g : Int) (w : World) (hn : n ≤ 9223372036854775807) (hl : Lay fS w ao n l) (hn2 : n2 ≤ 9223372036854775807) (hl2 : Lay fS w ao2 n2 l2) :
    Calls Try.prog 4 #[.agg #[.slice ao n cap], .agg #[.slice ao2 n2 cap2], .agg #[.int .i64 s, .int .i64 g]] w fun e w' => e = .returned (.bool true) ∧ Below w.heap.size w w' := by
  have hlen := hl.len
  have hlen2 := hl2.len
  by_cases hbig : 1000 < n
  · have ib : (1000 : Int) < (n : Int) := by omega
    go_enter Try.func4, Try.ntmps4
    go_wp2
    go_ret
    exact ⟨rfl, by with_reducible repeat (first | exact Below.refl _ _ | apply ba | apply bp | apply bd | apply bn)⟩
  have ib : ¬ (1000 : Int) < (n : Int) := by omega
  have db := decide_eq_false ib
  by_cases hbig2 : 1000 < n2
  · have ib2 : (1000 : Int) < (n2 : Int) := by omega
    go_enter Try.func4, Try.ntmps4
    go_wp2
    go_ret
    exact ⟨rfl, by with_reducible repeat (first | exact Below.refl _ _ | apply ba | apply bp | apply bd | apply bn)⟩
  have ib2 : ¬ (1000 : Int) < (n2 : Int) := by omega
  have db2 := decide_eq_false ib2
  have bL : l.length ≤ 10000 := by omega
  have bL2 : l2.length ≤ 10000 := by omega
  have bM : (mkRes l).length ≤ 10000 := by have := mkRes_le l; omega
  have bK : (killRes l s g).length ≤ 10000 := by have := killRes_le l s g; omega
  have bA : (allList l).length ≤ 10000 := by have := allList_le l; omega
  have sL := sameS_self l
  have sM := sameS_self (mkRes l)
  have sK := sameS_self (killRes l s g)
  go_enter Try.func4, Try.ntmps4
  go_upto_region 4 with (go_at_call 11; refine (atwin_calls _ _ _ l _ (hl.ex (by with_reducible repeat (first | exact ex_refl _ | exact ex_more | apply ex_alloc | apply ex_plus | apply ex_drew | apply ex_drewN))) (by omega)).mono ?_; rintro e w1 ⟨a1, c1, rfl, hw1, o1⟩; have q0 : w1.cell? ⟨w.heap.size, 0, none⟩ = some (.slice ao n cap) := cell_ex hw1 (by simp [go_sem, ↓IntWalk.iteOmega]); have q1 : w1.cell? ⟨w.heap.size + 1, 0, none⟩ = some (.slice ao2 n2 cap2) := cell_ex hw1 (by simp [go_sem, ↓IntWalk.iteOmega]); have q2 : w1.cell? ⟨w.heap.size + 1 + 1, 0, none⟩ = some (.int .i64 s) := cell_ex hw1 (by simp [go_sem, ↓IntWalk.iteOmega]); have q3 : w1.cell? ⟨w.heap.size + 1 + 1, 1, none⟩ = some (.int .i64 g) := cell_ex hw1 (by simp [go_sem, ↓IntWalk.iteOmega]))
  have hs1 := ex_size hw1
  have hown := (o1.ex (ex_alloc (o := (.cells #[.slice a1 n c1] 24)) (ex_refl w1))).lay
  have cO : (w1.alloc (.cells #[.slice a1 n c1] 24)).cell? ⟨w1.heap.size, 0, none⟩ = some (.slice a1 n c1) := by simp [go_sem]
  have cA := cell_ex (w' := w1.alloc (.cells #[.slice a1 n c1] 24)) (ex_alloc (o := (.cells #[.slice a1 n c1] 24)) (ex_refl w1)) q0
  have cB := cell_ex (w' := w1.alloc (.cells #[.slice a1 n c1] 24)) (ex_alloc (o := (.cells #[.slice a1 n c1] 24)) (ex_refl w1)) q1
  have cH := cell_ex (w' := w1.alloc (.cells #[.slice a1 n c1] 24)) (ex_alloc (o := (.cells #[.slice a1 n c1] 24)) (ex_refl w1)) q2
  have cH' := cell_ex (w' := w1.alloc (.cells #[.slice a1 n c1] 24)) (ex_alloc (o := (.cells #[.slice a1 n c1] 24)) (ex_refl w1)) q3
  have hx : ∃ y, w1.alloc (.cells #[.slice a1 n c1] 24) = plus w y := (by with_reducible repeat (first | exact ex_refl _ | exact ex_more | apply ex_alloc | apply ex_plus | apply ex_drew | apply ex_drewN | (apply ex_on; assumption)))
  clear o1 q0 q1 q2 q3
  generalize w1.alloc (.cells #[.slice a1 n c1] 24) = T at *
  have lO := cell_lt cO
  have lA := cell_lt cA
  have lB := cell_lt cB
  have lH := cell_lt cH
  go_upto_region 12 with (first | (go_at_call 7; refine (lmake_calls _ _ _ l _ (hown.ex (by with_reducible repeat (first | exact ex_refl _ | exact ex_more | apply ex_alloc | apply ex_plus | apply ex_drew | apply ex_drewN | (apply ex_on; assumption)))) (by omega)).mono ?_; rintro e w' ⟨xa, xc, rfl, ⟨y1, rfl⟩, ox⟩) | (go_at_call 12; refine (rmake_calls _ _ _ l _ (hl.ex (by with_reducible repeat (first | exact ex_refl _ | exact ex_more | apply ex_alloc | apply ex_plus | apply ex_drew | apply ex_drewN | (apply ex_on; assumption)))) (by omega)).mono ?_; rintro e w' ⟨ya, yc, rfl, ⟨y2, rfl⟩, oy⟩) | (go_at_call 8; refine (lkill_calls _ _ _ l _ _ _ (hown.ex (by with_reducible repeat (first | exact ex_refl _ | exact ex_more | apply ex_alloc | apply ex_plus | apply ex_drew | apply ex_drewN | (apply ex_on; assumption)))) (by omega)).mono ?_; rintro e w' ⟨ka, kc, rfl, ⟨y3, rfl⟩, ok⟩) | (go_at_call 13; refine (rkill_calls _ _ _ l _ _ _ (hl.ex (by with_reducible repeat (first | exact ex_refl _ | exact ex_more | apply ex_alloc | apply ex_plus | apply ex_drew | apply ex_drewN | (apply ex_on; assumption)))) (by omega)).mono ?_; rintro e w' ⟨la, lc, rfl, ⟨y4, rfl⟩, ol⟩) | (go_at_call 14; refine (lall_calls _ _ _ l _ (hown.ex (by with_reducible repeat (first | exact ex_refl _ | exact ex_more | apply ex_alloc | apply ex_plus | apply ex_drew | apply ex_drewN | (apply ex_on; assumption)))) (by omega)).mono ?_; rintro e w' ⟨ma, mn, mc, rfl, ⟨y5, rfl⟩, om⟩) | (go_at_call 15; refine (rall_calls _ _ _ l _ (hl.ex (by with_reducible repeat (first | exact ex_refl _ | exact ex_more | apply ex_alloc | apply ex_plus | apply ex_drew | apply ex_drewN | (apply ex_on; assumption)))) (by omega)).mono ?_; rintro e w' ⟨na, nn, nc, rfl, ⟨y6, rfl⟩, on⟩) | (go_at_call 16; refine (ltwin_calls _ _ _ l _ (hown.ex (by with_reducible repeat (first | exact ex_refl _ | exact ex_more | apply ex_alloc | apply ex_plus | apply ex_drew | apply ex_drewN | (apply ex_on; assumption)))) (by omega)).mono ?_; rintro e w' ⟨ta, tc, rfl, ⟨y7, rfl⟩, ot⟩) | (go_at_call 17; refine (plus_post (rsameA_any (by first | exact ox.lay.ex (by with_reducible repeat (first | exact ex_refl _ | exact ex_more | apply ex_alloc | apply ex_plus | apply ex_drew | apply ex_drewN | (apply ex_on; assumption))) | exact ok.lay.ex (by with_reducible repeat (first | exact ex_refl _ | exact ex_more | apply ex_alloc | apply ex_plus | apply ex_drew | apply ex_drewN | (apply ex_on; assumption)))) (by first | exact oy.lay.ex (by with_reducible repeat (first | exact ex_refl _ | exact ex_more | apply ex_alloc | apply ex_plus | apply ex_drew | apply ex_drewN | (apply ex_on; assumption))) | exact ol.lay.ex (by with_reducible repeat (first | exact ex_refl _ | exact ex_more | apply ex_alloc | apply ex_plus | apply ex_drew | apply ex_drewN | (apply ex_on; assumption)))) (by assumption) (by assumption))).mono ?_; rintro e w' ⟨rfl, nz, rfl⟩; first | rw [sM] | rw [sK]) | (go_at_call 18; refine (plus_post (sameH_self (om.ex (by with_reducible repeat (first | exact ex_refl _ | exact ex_more | apply ex_alloc | apply ex_plus | apply ex_drew | apply ex_drewN | (apply ex_on; assumption)))) (on.ex (by with_reducible repeat (first | exact ex_refl _ | exact ex_more | apply ex_alloc | apply ex_plus | apply ex_drew | apply ex_drewN | (apply ex_on; assumption)))) bA)).mono ?_; rintro e w' ⟨rfl, nz, rfl⟩))
  refine region_plus (by kernel_rfl) (by kernel_rfl) ?_
  (repeat (go_big_quiet_step ((first | (go_at_call 10; exact plus_of (lcheck_err (hown.ex (by with_reducible repeat (first | exact ex_refl _ | exact ex_more | apply ex_alloc | apply ex_plus | apply ex_drew | apply ex_drewN | (apply ex_on; assumption)))) (by omega))) | (go_at_call 19; exact plus_of (acheck_err (hl.ex (by with_reducible repeat (first | exact ex_refl _ | exact ex_more | apply ex_alloc | apply ex_plus | apply ex_drew | apply ex_drewN | (apply ex_on; assumption)))) (by omega))) | (go_at_call 20; exact plus_of (lholds_any (hown.ex (by with_reducible repeat (first | exact ex_refl _ | exact ex_more | apply ex_alloc | apply ex_plus | apply ex_drew | apply ex_drewN | (apply ex_on; assumption)))) (by omega))) | (go_at_call 21; exact plus_of (aholds_any (hl.ex (by with_reducible repeat (first | exact ex_refl _ | exact ex_more | apply ex_alloc | apply ex_plus | apply ex_drew | apply ex_drewN | (apply ex_on; assumption)))) (by omega))) | (go_at_call 22; exact plus_of (lsameA_any (by first | exact hl.ex (by with_reducible repeat (first | exact ex_refl _ | exact ex_more | apply ex_alloc | apply ex_plus | apply ex_drew | apply ex_drewN | (apply ex_on; assumption))) | exact hown.ex (by with_reducible repeat (first | exact ex_refl _ | exact ex_more | apply ex_alloc | apply ex_plus | apply ex_drew | apply ex_drewN | (apply ex_on; assumption)))) (by first | exact hl2.ex (by with_reducible repeat (first | exact ex_refl _ | exact ex_more | apply ex_alloc | apply ex_plus | apply ex_drew | apply ex_drewN | (apply ex_on; assumption))) | exact hl.ex (by with_reducible repeat (first | exact ex_refl _ | exact ex_more | apply ex_alloc | apply ex_plus | apply ex_drew | apply ex_drewN | (apply ex_on; assumption)))) (by assumption) (by assumption))) | (go_at_call 17; exact plus_of (rsameA_any (by first | exact hl.ex (by with_reducible repeat (first | exact ex_refl _ | exact ex_more | apply ex_alloc | apply ex_plus | apply ex_drew | apply ex_drewN | (apply ex_on; assumption))) | exact ot.lay.ex (by with_reducible repeat (first | exact ex_refl _ | exact ex_more | apply ex_alloc | apply ex_plus | apply ex_drew | apply ex_drewN | (apply ex_on; assumption)))) (by first | exact hl2.ex (by with_reducible repeat (first | exact ex_refl _ | exact ex_more | apply ex_alloc | apply ex_plus | apply ex_drew | apply ex_drewN | (apply ex_on; assumption))) | exact hl.ex (by with_reducible repeat (first | exact ex_refl _ | exact ex_more | apply ex_alloc | apply ex_plus | apply ex_drew | apply ex_drewN | (apply ex_on; assumption)))) (by assumption) (by assumption)))))))
  refine wpQuiet_nil ?_
  rintro _ ⟨x2, rfl⟩
  refine name_world (fun w' => Rg T (T.heap.size + (blocks y1).size) (T.heap.size + (blocks y1).size + 1 + 1 + (blocks y2).size + 1 + 1 + (blocks y3).size) (T.heap.size + (blocks y1).size + 1 + 1 + (blocks y2).size + 1 + 1 + (blocks y3).size + 1 + (blocks y4).size + 1 + (blocks y5).size + (blocks y6).size + (blocks y7).size) xa ka ta (mkRes l).length xc (killRes l s g).length kc n tc w') ⟨(by with_reducible repeat (first | exact ex_refl _ | exact ex_more | apply ex_alloc | apply ex_plus | apply ex_drew | apply ex_drewN | (apply ex_on; assumption))), blk_ex (w := ((plus T y1).alloc (.cells #[.slice xa (mkRes l).length xc] 24))) (by with_reducible repeat (first | exact ex_refl _ | exact ex_more | apply ex_alloc | apply ex_plus | apply ex_drew | apply ex_drewN)) (by rw [blk_alloc, if_pos (by simp [go_sem])]), blk_ex (w := ((plus (((plus (((plus T y1).alloc (.cells #[.slice xa (mkRes l).length xc] 24)).alloc (.cells #[.int .i64 (mkS l), .int .i64 (mkG l)] 26)) y2).alloc (.cells #[.slice ya (mkRes l).length yc] 24)).alloc (.cells #[.int .i64 (mkS l), .int .i64 (mkG l)] 26)) y3).alloc (.cells #[.slice ka (killRes l s g).length kc] 24))) (by with_reducible repeat (first | exact ex_refl _ | exact ex_more | apply ex_alloc | apply ex_plus | apply ex_drew | apply ex_drewN)) (by rw [blk_alloc, if_pos (by simp [go_sem])]), blk_ex (w := ((plus (plus (plus ((plus ((plus (((plus (((plus T y1).alloc (.cells #[.slice xa (mkRes l).length xc] 24)).alloc (.cells #[.int .i64 (mkS l), .int .i64 (mkG l)] 26)) y2).alloc (.cells #[.slice ya (mkRes l).length yc] 24)).alloc (.cells #[.int .i64 (mkS l), .int .i64 (mkG l)] 26)) y3).alloc (.cells #[.slice ka (killRes l s g).length kc] 24)) y4).alloc (.cells #[.slice la (killRes l s g).length lc] 24)) y5) y6) y7).alloc (.cells #[.slice ta n tc] 24))) (by with_reducible repeat (first | exact ex_refl _ | exact ex_more | apply ex_alloc | apply ex_plus | apply ex_drew | apply ex_drewN)) (by rw [blk_alloc, if_pos (by simp [go_sem])]), ((ox.ex (by with_reducible repeat (first | exact ex_refl _ | exact ex_more | apply ex_alloc | apply ex_plus | apply ex_drew | apply ex_drewN))).base (by simp [go_sem]; try omega)).sh, ((ok.ex (by with_reducible repeat (first | exact ex_refl _ | exact ex_more | apply ex_alloc | apply ex_plus | apply ex_drew | apply ex_drewN))).base (by simp [go_sem]; try omega)).sh, ((ot.ex (by with_reducible repeat (first | exact ex_refl _ | exact ex_more | apply ex_alloc | apply ex_plus | apply ex_drew | apply ex_drewN))).base (by simp [go_sem]; try omega)).sh⟩ ?_
  intro w5 hR
  clear ox oy ok ol om on ot
  generalize T.heap.size + (blocks y1).size + 1 + 1 + (blocks y2).size + 1 + 1 + (blocks y3).size + 1 + (blocks y4).size + 1 + (blocks y5).size + (blocks y6).size + (blocks y7).size = bt at *
  generalize T.heap.size + (blocks y1).size + 1 + 1 + (blocks y2).size + 1 + 1 + (blocks y3).size = bk at *
  generalize T.heap.size + (blocks y1).size = bx at *
  go_wp2
  go_loopw [25] (fun i wr => ∃ q : Nat, q ≤ (mkRes l).length ∧ i = .int .i64 q ∧ Rg T bx bk bt xa ka ta (mkRes l).length xc (killRes l s g).length kc n tc wr) (fun i _ => (mkRes l).length - (intOf i).toNat)
  case atStart => exact ⟨0, Nat.zero_le _, rfl, hR⟩
  case round =>
    clear hR
    obtain ⟨q, hq, rfl, hR⟩ := hrel
    have e0 := cell_blk (i := 0) hR.x rfl
    have e1 := cell_blk (i := 0) hR.k rfl
    have e2 := cell_blk (i := 0) hR.t rfl
    by_cases hql : q < (mkRes l).length
    · have iq : (q : Int) < (((mkRes l).length : Nat) : Int) := by omega
      obtain ⟨gv, cur, eg, hgv, hbv, hsz⟩ := hR.sx.resolve_left (by omega)
      rw [eg] at e0
      have c0' := blk_cell (i := q * 2) hbv (by omega)
      have z0' := frozen_blk (i := q * 2) hbv
      go_wp2
      go_roundw
      case rel => exact ⟨q + 1, by omega, by go_num, hR.set hgv hbv⟩
      case measure => simp [intOf]; omega
    · have iq : ¬ (q : Int) < (((mkRes l).length : Nat) : Int) := by omega
      go_wp2
      go_loopw [26] (fun i wr => ∃ q : Nat, q ≤ (killRes l s g).length ∧ i = .int .i64 q ∧ Rg T bx bk bt xa ka ta (mkRes l).length xc (killRes l s g).length kc n tc wr) (fun i _ => (killRes l s g).length - (intOf i).toNat)
      case atStart => exact ⟨0, Nat.zero_le _, rfl, hR⟩
      case round =>
        clear hR
        obtain ⟨q, hq, rfl, hR⟩ := hrel
        have e0 := cell_blk (i := 0) hR.x rfl
        have e1 := cell_blk (i := 0) hR.k rfl
        have e2 := cell_blk (i := 0) hR.t rfl
        by_cases hql : q < (killRes l s g).length
        · have iq : (q : Int) < (((killRes l s g).length : Nat) : Int) := by omega
          obtain ⟨gv, cur, eg, hgv, hbv, hsz⟩ := hR.sk.resolve_left (by omega)
          rw [eg] at e1
          have c0' := blk_cell (i := q * 2) hbv (by omega)
          have z0' := frozen_blk (i := q * 2) hbv
          go_wp2
          go_roundw
          case rel => exact ⟨q + 1, by omega, by go_num, hR.set hgv hbv⟩
          case measure => simp [intOf]; omega
        · have iq : ¬ (q : Int) < (((killRes l s g).length : Nat) : Int) := by omega
          go_wp2
          go_loopw [27] (fun i wr => ∃ q : Nat, q ≤ n ∧ i = .int .i64 q ∧ Rg T bx bk bt xa ka ta (mkRes l).length xc (killRes l s g).length kc n tc wr) (fun i _ => n - (intOf i).toNat)
          case atStart => exact ⟨0, Nat.zero_le _, rfl, hR⟩
          case round =>
            clear hR
            obtain ⟨q, hq, rfl, hR⟩ := hrel
            have e0 := cell_blk (i := 0) hR.x rfl
            have e1 := cell_blk (i := 0) hR.k rfl
            have e2 := cell_blk (i := 0) hR.t rfl
            by_cases hql : q < n
            · have iq : (q : Int) < ((n : Nat) : Int) := by omega
              obtain ⟨gv, cur, eg, hgv, hbv, hsz⟩ := hR.st.resolve_left (by omega)
              rw [eg] at e2
              have c0' := blk_cell (i := q * 2) hbv (by omega)
              have z0' := frozen_blk (i := q * 2) hbv
              go_wp2
              go_roundw
              case rel => exact ⟨q + 1, by omega, by go_num, hR.set hgv hbv⟩
              case measure => simp [intOf]; omega
            · have iq : ¬ (q : Int) < ((n : Nat) : Int) := by omega
              have cO5 := cell_ex hR.ex cO
              have cA5 := cell_ex hR.ex cA
              have hx5 := hR.ex
              clear hR
              go_wp2_with (go_at_call 17; refine (plus_post (rsameA_any (hown.ex (by with_reducible repeat (first | exact ex_refl _ | exact ex_more | apply ex_alloc | apply ex_plus | apply ex_drew | apply ex_drewN | (apply ex_on; assumption)))) (hl.ex (by with_reducible repeat (first | exact ex_refl _ | exact ex_more | apply ex_alloc | apply ex_plus | apply ex_drew | apply ex_drewN | (apply ex_on; assumption)))) bL bL)).mono ?_; rintro e w' ⟨rfl, nz, rfl⟩; rw [sL])
              go_ret
              exact ⟨rfl, below_ex (by with_reducible repeat (first | exact ex_refl _ | exact ex_more | apply ex_alloc | apply ex_plus | apply ex_drew | apply ex_drewN | (apply ex_on; assumption)))⟩

set_option maxRecDepth 100000 in
theorem arenaGoes_lifted (os : Os) (started : os.Started) (H : Type) (enc : TypeId × Value → H) :
    ReturnsInHanded {} Try.checked os 4 .any (Rows.arenaGoesSpec.pre6 enc Try.prog Try.f4 Rows.arenaGoesRow.domain false) (Rows.arenaGoesSpec.post enc Try.prog Try.f4 false true false false) := by
  refine returnsInHanded_of_change (C := Try.checked) own started (by kernel_rfl) Try.func4
    (ChangeSpec.witness6 (enc := enc) (C := Try.checked) false ⟨#[], #[.agg #[.slice none 0 0], .agg #[.slice none 0 0], .agg #[.int .i64 0, .int .i64 0]], []⟩ 8 (by kernel_rfl) (by kernel_rfl) (by kernel_rfl) (by kernel_rfl)) ?_
  intro W base args ds gs before hval0 hW hcnd _
  have hval : ∀ (j : Nat) t v, Try.f4.params[j]? = some t → args[j]? = some v → Value.okWide Try.prog W .any base t v := hval0
  have hW' := hW
  obtain ⟨p, q, hA0, hV, rfl, hfz, hnd⟩ := hW
  have hA : DataW.TrodAll enc Try.prog W 0 (fun _ => true) true Try.f4.params.toList args.toList ds p := hA0
  rw [Try.params4] at hA hval
  obtain ⟨v0, vs0, d0, ds0, p0, q0, hargs, rfl, rfl, h0, r0⟩ := trodAll_cons hA
  obtain ⟨v1, vs1, d1, ds1, p1, q1, rfl, rfl, rfl, h1, r1⟩ := trodAll_cons r0
  obtain ⟨v2, vs2, d2, ds2, p2, q2, rfl, rfl, rfl, h2, r2⟩ := trodAll_cons r1
  obtain ⟨rfl, rfl, rfl⟩ := trodAll_nil r2
  obtain rfl : args = #[v0, v1, v2] := by cases args; simp_all
  obtain ⟨ao0, n0, cap0, l0, rfl, hn0, hz0, hl0⟩ := open_arena Try.underlying24 (by kernel_rfl) (by kernel_rfl) Try.underlying22 (by kernel_rfl) Try.underlying33 (by kernel_rfl) Try.underlying3 Try.underlying4 (hval 0 24 v0 rfl rfl) h0
  obtain ⟨ao1, n1, cap1, l1, rfl, hn1, hz1, hl1⟩ := open_arena Try.underlying24 (by kernel_rfl) (by kernel_rfl) Try.underlying22 (by kernel_rfl) Try.underlying33 (by kernel_rfl) Try.underlying3 Try.underlying4 (hval 1 24 v1 rfl rfl) h1
  obtain ⟨a2_0, a2_1, rfl, ca2_0, ca2_1⟩ := open_flat2 (k := 4) (t := 26) (by kernel_rfl) (by kernel_rfl) (by kernel_rfl) (hval 2 26 v2 rfl rfl) h2
  refine (arenaGoes_walk ao0 n0 cap0 l0 ao1 n1 cap1 l1 a2_0 a2_1  W hn0 hl0 hn1 hl1).mono fun e W' ⟨he, hb⟩ => ?_
  exact ⟨_, he, law_post laidOut Try.underlying4 rfl (by kernel_rfl) (by kernel_rfl) (fun ds h => match ds, h with | [_, _, _], _ => rfl) hW' hb⟩

theorem arenaGoes_holds : Rows.ArenaGoesSaid :=
  OpenClaim.holds_of_wide 4 Try.f4 rfl rfl rfl rfl rfl rfl rfl ⟨rfl, rfl, rfl, rfl, rfl⟩ rfl rfl rfl rfl rfl (by kernel_rfl) Try.func4 (by kernel_rfl)
    (of_decide_eq_true (by kernel_rfl)) (by unfold Func.isWrapper; first | (rw [if_pos (by decide +kernel)]; kernel_rfl) | (rw [if_neg (by decide +kernel)]; exact ⟨rfl, rfl⟩))
    (fun os started H enc _ => arenaGoes_lifted os started H enc)
#print axioms arenaGoes_holds
end Go.Proofs.Ytfeiggldjajmbaa
