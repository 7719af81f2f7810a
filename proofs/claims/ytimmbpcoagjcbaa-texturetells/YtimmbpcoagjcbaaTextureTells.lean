/- TextureTells is proved: textures are checked, compared, copied, and their texels told, as the document says; what is handed in stays, what is copied is new memory: the call returns true for any list of textures, any texture and any place. No condition. -/
import Derived.Test.YtimmbpcoagjcbaaTx3
import Derived.Test.YtimmbpcoagjcbaaTx4
import Derived.Test.YtimmbpcoagjcbaaTx5
import Derived.Test.YtimmbpcoagjcbaaLaw
import Derived.Deep.DeepCutAuto
namespace Go.Proofs.Ytimmbpcoagjcbaa
open Go.RowKit Go.ChangeShapes Go.WideShapes Go.ChangeAt
set_option linter.unusedSimpArgs false
set_option linter.unusedVariables false
attribute [local go_sem] plus_size plus_drew dn_set dn_alloc dn_plus plus_dn cell_plus frozen_plus set_plus cell_alloc frozen_alloc set_alloc

attribute [local go_sem] eqC_refl

attribute [local go_sem] colc_23

attribute [local go_sem] cole_23

attribute [local go_sem] coln_23

theorem name_world9 {α : Type} {F : α → World → Prop} {a : α} {w : World} (p : World → Prop) (hp : p w) (h : ∀ w', p w' → F a w') : F a w := h w hp
theorem err_may {W H : Int} {n : Nat} : (errT W H n == 0) = mayT W H n := by
  cases h : mayT W H n
  · rw [err_no' h]; rfl
  · rw [err_ok' h]; rfl

set_option maxRecDepth 100000 in
set_option maxHeartbeats 8000000 in
theorem textureTells_walk (ao : Option Addr) (n cap : Nat) (hs : List TH) (ls : List (List Cl)) (t : TH) (l : List Cl) (u v : Int) (w : World) (hn : n ≤ 9223372036854775807) (hl : Lay fTh w ao n hs) (hk : TxsAt w hs ls) (hT : TxAt w t l) :
    Calls Try.prog 4 #[.slice ao n cap, vTh t, .int .i64 u, .int .i64 v] w fun e w' => e = .returned (.bool true) ∧ Below w.heap.size w w' := by
  obtain ⟨W, H, tao, tn, tcap⟩ := t
  have hlen := hl.len
  have htl := hT.lay
  have htn := hT.le
  have htz := hT.nil
  simp only at htl htn htz
  clear hT
  unfold vTh
  simp only
  have hsz := Hush9.mk (fun k (h : k < n) => (hk.one k (by omega)).le)
  replace htz := Hush9.mk htz
  replace hk := Hush9.mk hk
  cases hg : greatT hs
  rotate_left
  · go_enter Try.func4, Try.ntmps4
    go_wp2_with (go_at_call 12; refine (rgreat9_calls _ _ _ hs _ (hl.ex (by with_reducible repeat (first | exact ex_refl _ | exact ex_more9 | apply ex_alloc | apply ex_plus | apply ex_drew | apply ex_drewN | (apply ex_on; assumption)))) hn hsz.it).mono ?_; rintro e w' ⟨rfl, nx, rfl⟩; rw [hg])
    go_ret
    exact ⟨rfl, below_ex (by with_reducible repeat (first | exact ex_refl _ | exact ex_more9 | apply ex_alloc | apply ex_plus | apply ex_drew | apply ex_drewN | (apply ex_on; assumption)))⟩
  by_cases hb : 10000 < tn
  · have ib : (10000 : Int) < (tn : Int) := by omega
    go_enter Try.func4, Try.ntmps4
    go_wp2_with (go_at_call 12; refine (rgreat9_calls _ _ _ hs _ (hl.ex (by with_reducible repeat (first | exact ex_refl _ | exact ex_more9 | apply ex_alloc | apply ex_plus | apply ex_drew | apply ex_drewN | (apply ex_on; assumption)))) hn hsz.it).mono ?_; rintro e w' ⟨rfl, nx, rfl⟩; rw [hg])
    go_ret
    exact ⟨rfl, below_ex (by with_reducible repeat (first | exact ex_refl _ | exact ex_more9 | apply ex_alloc | apply ex_plus | apply ex_drew | apply ex_drewN | (apply ex_on; assumption)))⟩
  have ib : ¬ (10000 : Int) < (tn : Int) := by omega
  obtain ⟨g40, g20⟩ := great_no hg
  obtain ⟨p, hp⟩ : ∃ p, atT W H tn l u v = p := ⟨_, rfl⟩
  replace g20 := Hush9.mk g20
  replace hp := Hush9.mk hp
  have hlt := htl.len
  go_enter Try.func4, Try.ntmps4
  go_upto_region 4 with (first | (go_at_call 12; refine (rgreat9_calls _ _ _ hs _ (hl.ex (by with_reducible repeat (first | exact ex_refl _ | exact ex_more9 | apply ex_alloc | apply ex_plus | apply ex_drew | apply ex_drewN | (apply ex_on; assumption)))) hn hsz.it).mono ?_; rintro e w' ⟨rfl, nx, rfl⟩; rw [hg]) | (go_at_call 13; refine (rtwin9_calls W H _ tn _ l _ (htl.ex (by with_reducible repeat (first | exact ex_refl _ | exact ex_more9 | apply ex_alloc | apply ex_plus | apply ex_drew | apply ex_drewN | (apply ex_on; assumption)))) (by omega) (fun h => (htz.it h).2)).mono ?_; rintro e w1 ⟨a1, c1, rfl, hw1, o1⟩; have u0 : w1.cell? ⟨w.heap.size, 0, none⟩ = some (.int .i64 W) := cell_ex hw1 (by simp [go_sem, ↓IntWalk.iteOmega]); have u1 : w1.cell? ⟨w.heap.size, 1, none⟩ = some (.int .i64 H) := cell_ex hw1 (by simp [go_sem, ↓IntWalk.iteOmega]); have u2 : w1.cell? ⟨w.heap.size, 2, none⟩ = some (.slice tao tn tcap) := cell_ex hw1 (by simp [go_sem, ↓IntWalk.iteOmega]); have gu0 := cell_lt u0))
  go_upto_region 6 with (first | (go_at_call 7; refine (tat_is (o1.lay.ex (by with_reducible repeat (first | exact ex_refl _ | exact ex_more9 | apply ex_alloc | apply ex_plus | apply ex_drew | apply ex_drewN | (apply ex_on; assumption)))) htn hp.it).mono ?_; rintro e w' ⟨rfl, nx1, rfl⟩) | (go_at_call 14; refine (rat_is (htl.ex (by with_reducible repeat (first | exact ex_refl _ | exact ex_more9 | apply ex_alloc | apply ex_plus | apply ex_drew | apply ex_drewN | (apply ex_on; assumption)))) htn hp.it).mono ?_; rintro e w' ⟨rfl, nx2, rfl⟩))
  refine name_world9 (fun w' => (∃ y, w' = plus w y) ∧ Lay fCl w' a1 tn l ∧ (w'.cell? ⟨w.heap.size, 0, none⟩ = some (.int .i64 W) ∧ w'.cell? ⟨w.heap.size, 1, none⟩ = some (.int .i64 H) ∧ w'.cell? ⟨w.heap.size, 2, none⟩ = some (.slice tao tn tcap)) ∧ (w'.cell? ⟨w1.heap.size, 0, none⟩ = some (.int .i64 W) ∧ w'.cell? ⟨w1.heap.size, 1, none⟩ = some (.int .i64 H) ∧ w'.cell? ⟨w1.heap.size, 2, none⟩ = some (.slice a1 tn c1)) ∧ (w'.cell? ⟨w1.heap.size + 1 + (blocks nx1).size, 0, none⟩ = some (.int .u8 p.1.r) ∧ w'.cell? ⟨w1.heap.size + 1 + (blocks nx1).size, 1, none⟩ = some (.int .u8 p.1.g) ∧ w'.cell? ⟨w1.heap.size + 1 + (blocks nx1).size, 2, none⟩ = some (.int .u8 p.1.b) ∧ w'.cell? ⟨w1.heap.size + 1 + (blocks nx1).size, 3, none⟩ = some (.int .u8 p.1.a)) ∧ (w'.cell? ⟨w1.heap.size + 1 + (blocks nx1).size + 1 + (blocks nx2).size, 0, none⟩ = some (.int .u8 p.1.r) ∧ w'.cell? ⟨w1.heap.size + 1 + (blocks nx1).size + 1 + (blocks nx2).size, 1, none⟩ = some (.int .u8 p.1.g) ∧ w'.cell? ⟨w1.heap.size + 1 + (blocks nx1).size + 1 + (blocks nx2).size, 2, none⟩ = some (.int .u8 p.1.b) ∧ w'.cell? ⟨w1.heap.size + 1 + (blocks nx1).size + 1 + (blocks nx2).size, 3, none⟩ = some (.int .u8 p.1.a))) ⟨(by with_reducible repeat (first | exact ex_refl _ | exact ex_more9 | apply ex_alloc | apply ex_plus | apply ex_drew | apply ex_drewN | (apply ex_on; assumption))), o1.lay.ex (by with_reducible repeat (first | exact ex_refl _ | exact ex_more9 | apply ex_alloc | apply ex_plus | apply ex_drew | apply ex_drewN | (apply ex_on; assumption))), ⟨(by simp [go_sem, ↓IntWalk.iteOmega, u0, u1, u2]), (by simp [go_sem, ↓IntWalk.iteOmega, u0, u1, u2]), (by simp [go_sem, ↓IntWalk.iteOmega, u0, u1, u2])⟩, ⟨(by simp [go_sem, ↓IntWalk.iteOmega]), (by simp [go_sem, ↓IntWalk.iteOmega]), (by simp [go_sem, ↓IntWalk.iteOmega])⟩, ⟨(by simp [go_sem, ↓IntWalk.iteOmega]), (by simp [go_sem, ↓IntWalk.iteOmega]), (by simp [go_sem, ↓IntWalk.iteOmega]), (by simp [go_sem, ↓IntWalk.iteOmega])⟩, ⟨(by simp [go_sem, ↓IntWalk.iteOmega]), (by simp [go_sem, ↓IntWalk.iteOmega]), (by simp [go_sem, ↓IntWalk.iteOmega]), (by simp [go_sem, ↓IntWalk.iteOmega])⟩⟩ ?_
  have haz := o1.none_zero
  rintro wA ⟨hA, lA, ⟨t0, t1, t2⟩, ⟨s0, s1, s2⟩, ⟨p0, p1, p2, p3⟩, ⟨q0, q1, q2, q3⟩⟩
  generalize w1.heap.size + 1 + (blocks nx1).size + 1 + (blocks nx2).size = b12 at *
  generalize w1.heap.size + 1 + (blocks nx1).size = b10 at *
  generalize w1.heap.size = b9 at *
  generalize w.heap.size = b5 at *
  clear o1 u0 u1 u2 hw1 w1
  go_upto_region 7 with (go_at_call 15; refine (ttwin_calls W H _ tn _ l _ (lA.ex (by with_reducible repeat (first | exact ex_refl _ | exact ex_more9 | apply ex_alloc | apply ex_plus | apply ex_drew | apply ex_drewN | (apply ex_on; assumption)))) (by omega) (fun h => (haz h).2)).mono ?_; rintro e w2 ⟨a2, c2, rfl, hw2, o2⟩)
  have l2 := o2.lay
  have lA2 := lA.ex hw2
  have hl2 := hl.ex (ex_trans hA hw2)
  have htl2 := htl.ex (ex_trans hA hw2)
  have t0b := cell_ex hw2 t0
  have t1b := cell_ex hw2 t1
  have t2b := cell_ex hw2 t2
  have s0b := cell_ex hw2 s0
  have s1b := cell_ex hw2 s1
  have s2b := cell_ex hw2 s2
  have p0b := cell_ex hw2 p0
  have p1b := cell_ex hw2 p1
  have p2b := cell_ex hw2 p2
  have p3b := cell_ex hw2 p3
  have q0b := cell_ex hw2 q0
  have q1b := cell_ex hw2 q1
  have q2b := cell_ex hw2 q2
  have q3b := cell_ex hw2 q3
  have gt0 := cell_lt t0b
  have gs0 := cell_lt s0b
  have gp0 := cell_lt p0b
  have gq0 := cell_lt q0b
  have hm := err_may (W := W) (H := H) (n := tn)
  have hst := sameT_refl W H l
  obtain ⟨ck, hck⟩ : ∃ ck, checksT hs = ck := ⟨_, rfl⟩
  replace hck := Hush9.mk hck
  refine region_plus (by kernel_rfl) (by kernel_rfl) ?_
  (repeat (go_big_quiet_step ((first | (go_at_call 16; exact q9_of (rsame9_is hst (l2.ex (by with_reducible repeat (first | exact ex_refl _ | exact ex_more9 | apply ex_alloc | apply ex_plus | apply ex_drew | apply ex_drewN | (apply ex_on; assumption)))) (htl2.ex (by with_reducible repeat (first | exact ex_refl _ | exact ex_more9 | apply ex_alloc | apply ex_plus | apply ex_drew | apply ex_drewN | (apply ex_on; assumption)))) htn htn)) | (go_at_call 11; exact q9_of (tchecks_is hck.it (hl2.ex (by with_reducible repeat (first | exact ex_refl _ | exact ex_more9 | apply ex_alloc | apply ex_plus | apply ex_drew | apply ex_drewN | (apply ex_on; assumption)))) hn)) | (go_at_call 17; exact q9_of (rchecks9_is hck.it (hl2.ex (by with_reducible repeat (first | exact ex_refl _ | exact ex_more9 | apply ex_alloc | apply ex_plus | apply ex_drew | apply ex_drewN | (apply ex_on; assumption)))) hn)) | (go_at_call 10; exact q9_of (tcheck_calls _ _ _ _ _ _)) | (go_at_call 18; exact q9_of (rmay9_calls _ _ _ _ _ _))))))
  refine wpQuiet_nil ?_
  rintro _ ⟨x2, rfl⟩
  refine name_world9 (fun w' => (∃ y, w' = plus wA y) ∧ Own 23 4 fCl wA w' a2 tn c2 l ∧ w'.heap[w2.heap.size]? = some (.cells #[.int .i64 W, .int .i64 H, .slice a2 tn c2] 29)) ⟨(by with_reducible repeat (first | exact ex_refl _ | exact ex_more9 | apply ex_alloc | apply ex_plus | apply ex_drew | apply ex_drewN | (apply ex_on; assumption))), o2.ex (by with_reducible repeat (first | exact ex_refl _ | exact ex_more9 | apply ex_alloc | apply ex_plus | apply ex_drew | apply ex_drewN | (apply ex_on; assumption))), blk_ex (ex_plus (ex_refl _)) (by rw [blk_alloc, if_pos rfl])⟩ ?_
  rintro wB ⟨hB, oB, bB⟩
  clear o2 l2 lA2 hl2 htl2 t0b t1b t2b s0b s1b s2b p0b p1b p2b p3b q0b q1b q2b q3b hw2
  generalize w2.heap.size = bX at *
  clear w2
  have hAB := ex_trans hA hB
  have lB := lA.ex hB
  have hlB := hl.ex hAB
  have htB := htl.ex hAB
  have t0b := cell_ex hB t0
  have t1b := cell_ex hB t1
  have t2b := cell_ex hB t2
  have s0b := cell_ex hB s0
  have s1b := cell_ex hB s1
  have s2b := cell_ex hB s2
  replace gt0 := cell_lt t0b
  replace gs0 := cell_lt s0b
  have x0b := cell_blk (i := 0) bB rfl
  have x1b := cell_blk (i := 1) bB rfl
  have x2b := cell_blk (i := 2) bB rfl
  have gx := cell_lt x0b
  go_wp2
  go_loopw [15] (fun i wr => ∃ k : Nat, k ≤ n ∧ i = .int .i64 k ∧ ∃ y, wr = plus wB y) (fun i _ => n - (intOf i).toNat)
  case atStart => exact ⟨0, Nat.zero_le _, rfl, (by with_reducible repeat (first | exact ex_refl _ | exact ex_more9 | apply ex_alloc | apply ex_plus | apply ex_drew | apply ex_drewN))⟩
  case round =>
    obtain ⟨k, hkn, rfl, y, rfl⟩ := hrel
    by_cases hkl : k < n
    · have ik : (k : Int) < (n : Int) := by omega
      obtain ⟨g, off, rfl, hgl, hcell⟩ := hlB.some (by omega)
      obtain ⟨c0, c1', c2'⟩ := cellTh hlen hcell hkl
      have hone := hk.it.one k (by omega)
      have hle := hone.le
      have hln := hone.lay.ex hAB
      obtain ⟨b, hb⟩ : ∃ b, sameT W H l (nth th0 hs k).w (nth th0 hs k).h (nth [] ls k) = b := ⟨_, rfl⟩
      replace hb := Hush9.mk hb
      clear hone
      go_wp2
      refine region_plus (by kernel_rfl) (by kernel_rfl) ?_
      (repeat (go_big_quiet_step ((first | (go_at_call 16; exact q9_of (rsame9_is hb.it (htB.ex (by with_reducible repeat (first | exact ex_refl _ | exact ex_more9 | apply ex_alloc | apply ex_plus | apply ex_drew | apply ex_drewN | (apply ex_on; assumption)))) (hln.ex (by with_reducible repeat (first | exact ex_refl _ | exact ex_more9 | apply ex_alloc | apply ex_plus | apply ex_drew | apply ex_drewN | (apply ex_on; assumption)))) htn hle)) | (go_at_call 19; exact q9_of (tsame_is hb.it (lB.ex (by with_reducible repeat (first | exact ex_refl _ | exact ex_more9 | apply ex_alloc | apply ex_plus | apply ex_drew | apply ex_drewN | (apply ex_on; assumption)))) (hln.ex (by with_reducible repeat (first | exact ex_refl _ | exact ex_more9 | apply ex_alloc | apply ex_plus | apply ex_drew | apply ex_drewN | (apply ex_on; assumption)))) htn hle))))))
      refine wpQuiet_nil ?_
      rintro _ ⟨x2, rfl⟩
      go_wp2
      go_roundw
      case rel => exact ⟨k + 1, by omega, by go_num, (by with_reducible repeat (first | exact ex_refl _ | exact ex_more9 | apply ex_alloc | apply ex_plus | apply ex_drew | apply ex_drewN))⟩
      case measure => simp [intOf]; omega
    · have ik : ¬ (k : Int) < (n : Int) := by omega
      go_wp2
      go_loopw [16] (fun i wr => ∃ (k : Nat) (xs : List Cl), k ≤ tn ∧ i = .int .i64 k ∧ (∃ y, wr = plus wA y) ∧ Own 23 4 fCl wA wr a2 tn c2 xs ∧ wr.heap[bX]? = some (.cells #[.int .i64 W, .int .i64 H, .slice a2 tn c2] 29)) (fun i _ => tn - (intOf i).toNat)
      case atStart => exact ⟨0, l, Nat.zero_le _, rfl, ex_plus hB, oB.ex (by with_reducible repeat (first | exact ex_refl _ | exact ex_more9 | apply ex_alloc | apply ex_plus | apply ex_drew | apply ex_drewN)), blk_ex (by with_reducible repeat (first | exact ex_refl _ | exact ex_more9 | apply ex_alloc | apply ex_plus | apply ex_drew | apply ex_drewN)) bB⟩
      case round =>
        obtain ⟨k2, xs, hkt, rfl, hwr, ox, bx⟩ := hrel
        have m2 : wr.cell? ⟨bX, 2, none⟩ = some (.slice a2 tn c2) := cell_blk (i := 2) bx rfl
        have gbx := cell_lt m2
        by_cases hk2 : k2 < tn
        · have ik2 : (k2 : Int) < (tn : Int) := by omega
          obtain ⟨g, cur, rfl, hgA, hblk, hcs⟩ := ox.blk (by omega)
          obtain ⟨_, off, e0, hg2, hcell⟩ := ox.lay.some (by omega)
          simp only [Option.some.injEq, Addr.mk.injEq, and_true] at e0
          obtain ⟨rfl, rfl⟩ := e0
          obtain ⟨c0, c1', c2', c3'⟩ := cellCl ox.1 hcell hk2
          rw [Nat.zero_add] at c0
          have hne : g ≠ bX := by
            intro e0
            subst e0
            rw [bx] at hblk
            cases hblk
          have hz := frozen_blk (i := k2 * 4) hblk
          go_wp2
          refine region_tail 12 (by kernel_rfl) (by kernel_rfl) ?_
          simp only [List.take_succ_cons, List.take_zero, List.drop_succ_cons, List.drop_zero]
          (repeat (go_big_quiet_step (fail)))
          refine wpQuiet_nil ?_
          rintro _ ⟨x2, rfl⟩
          go_wp2
          go_roundw
          case rel =>
            have oS := ox.set_self (u := .int .u8 (((nth cl0 xs k2).r + 1) % 256)) k2 0 (⟨((nth cl0 xs k2).r + 1) % 256, (nth cl0 xs k2).g, (nth cl0 xs k2).b, (nth cl0 xs k2).a⟩ : Cl) cl0 hk2 fCl_c (by decide) rfl
            rw [Nat.add_zero] at oS
            exact ⟨k2 + 1, _, by omega, by go_num, ex_plus (ex_set_new hwr hgA), oS.ex (by with_reducible repeat (first | exact ex_refl _ | exact ex_more9 | apply ex_alloc | apply ex_plus | apply ex_drew | apply ex_drewN)), blk_ex (by with_reducible repeat (first | exact ex_refl _ | exact ex_more9 | apply ex_alloc | apply ex_plus | apply ex_drew | apply ex_drewN)) ((blk_set_ne hne).trans bx)⟩
          case measure => simp [intOf]; omega
        · have ik2 : ¬ (k2 : Int) < (tn : Int) := by omega
          clear t0b t1b t2b s0b s1b s2b x0b x1b x2b
          have lQ := lA.ex hwr
          have htQ := htl.ex (ex_trans hA hwr)
          have t0q := cell_ex hwr t0
          have t1q := cell_ex hwr t1
          have t2q := cell_ex hwr t2
          have s0q := cell_ex hwr s0
          have s1q := cell_ex hwr s1
          have s2q := cell_ex hwr s2
          replace gt0 := cell_lt t0q
          replace gs0 := cell_lt s0q
          go_wp2_with (first | (go_at_call 16; refine (rsame9_is hst (lQ.ex (by with_reducible repeat (first | exact ex_refl _ | exact ex_more9 | apply ex_alloc | apply ex_plus | apply ex_drew | apply ex_drewN))) (htQ.ex (by with_reducible repeat (first | exact ex_refl _ | exact ex_more9 | apply ex_alloc | apply ex_plus | apply ex_drew | apply ex_drewN))) htn htn).mono ?_; rintro e w' ⟨rfl, nx8, rfl⟩) | (go_at_call 19; refine (tsame_is hst (lQ.ex (by with_reducible repeat (first | exact ex_refl _ | exact ex_more9 | apply ex_alloc | apply ex_plus | apply ex_drew | apply ex_drewN))) (htQ.ex (by with_reducible repeat (first | exact ex_refl _ | exact ex_more9 | apply ex_alloc | apply ex_plus | apply ex_drew | apply ex_drewN))) htn htn).mono ?_; rintro e w' ⟨rfl, nx9, rfl⟩))
          go_ret
          exact ⟨rfl, below_ex (ex_trans hA (ex_trans hwr (by with_reducible repeat (first | exact ex_refl _ | exact ex_more9 | apply ex_alloc | apply ex_plus | apply ex_drew | apply ex_drewN))))⟩

set_option maxRecDepth 100000 in
theorem textureTells_lifted (os : Os) (started : os.Started) (H : Type) (enc : TypeId × Value → H) :
    ReturnsInHanded {} Try.checked os 4 .any (Rows.textureTellsSpec.pre6 enc Try.prog Try.f4 Rows.textureTellsRow.domain false) (Rows.textureTellsSpec.post enc Try.prog Try.f4 false true false false) := by
  refine returnsInHanded_of_change (C := Try.checked) own started (by kernel_rfl) Try.func4
    (ChangeSpec.witness6 (enc := enc) (C := Try.checked) false ⟨#[], #[.slice none 0 0, .agg #[.int .i64 0, .int .i64 0, .slice none 0 0], .int .i64 0, .int .i64 0], []⟩ 8 (by kernel_rfl) (by kernel_rfl) (by kernel_rfl) (by kernel_rfl)) ?_
  intro W base args ds gs before hval0 hW hcnd _
  have hval : ∀ (j : Nat) t v, Try.f4.params[j]? = some t → args[j]? = some v → Value.okWide Try.prog W .any base t v := hval0
  have hW' := hW
  obtain ⟨p, q, hA0, hV, rfl, hfz, hnd⟩ := hW
  have hA : DataW.TrodAll enc Try.prog W 0 (fun _ => true) true Try.f4.params.toList args.toList ds p := hA0
  rw [Try.params4] at hA hval
  obtain ⟨v0, vs0, d0, ds0, p0, q0, hargs, rfl, rfl, h0, r0⟩ := trodAll_cons hA
  obtain ⟨v1, vs1, d1, ds1, p1, q1, rfl, rfl, rfl, h1, r1⟩ := trodAll_cons r0
  obtain ⟨v2, vs2, d2, ds2, p2, q2, rfl, rfl, rfl, h2, r2⟩ := trodAll_cons r1
  obtain ⟨v3, vs3, d3, ds3, p3, q3, rfl, rfl, rfl, h3, r3⟩ := trodAll_cons r2
  obtain ⟨rfl, rfl, rfl⟩ := trodAll_nil r3
  obtain rfl : args = #[v0, v1, v2, v3] := by cases args; simp_all
  obtain ⟨fu0, x0, hx0⟩ := slice_cell Try.underlying34 (hval 0 34 v0 rfl rfl) h0
  obtain ⟨ao0, n0, cap0, rfl, hn0, _, ho0⟩ := open_sl (c := 3) Try.underlying34 (by kernel_rfl) (by decide) hx0
  obtain ⟨hs0, ls0, hl0, hk0⟩ := lay_texs Try.underlying29 (by kernel_rfl) Try.underlying3 Try.underlying3 Try.underlying27 (by kernel_rfl) (by kernel_rfl) ho0
  obtain ⟨t1, l1, rfl, hT1⟩ := open_tex Try.underlying29 (by kernel_rfl) (by kernel_rfl) (by kernel_rfl) Try.underlying3 Try.underlying3 Try.underlying27 (by kernel_rfl) (by kernel_rfl) (hval 1 29 v1 rfl rfl) h1
  obtain ⟨a2, rfl, _, _, w2⟩ := open_int Try.underlying3 (hval 2 3 v2 rfl rfl) h2
  have b2 := bounds_i64 w2
  obtain ⟨a3, rfl, _, _, w3⟩ := open_int Try.underlying3 (hval 3 3 v3 rfl rfl) h3
  have b3 := bounds_i64 w3
  refine (textureTells_walk ao0 n0 cap0 hs0 ls0 t1 l1 a2 a3  W hn0 hl0 hk0 hT1).mono fun e W' ⟨he, hb⟩ => ?_
  exact ⟨_, he, law_post laidOut Try.underlying4 rfl (by kernel_rfl) (by kernel_rfl) (fun ds h => match ds, h with | [_, _, _, _], _ => rfl) hW' hb⟩

theorem textureTells_holds : Rows.TextureTellsSaid :=
  OpenClaim.holds_of_wide 4 Try.f4 rfl rfl rfl rfl rfl rfl rfl ⟨rfl, rfl, rfl, rfl, rfl⟩ rfl rfl rfl rfl rfl (by kernel_rfl) Try.func4 (by kernel_rfl)
    (of_decide_eq_true (by kernel_rfl)) (by unfold Func.isWrapper; first | (rw [if_pos (by decide +kernel)]; kernel_rfl) | (rw [if_neg (by decide +kernel)]; exact ⟨rfl, rfl⟩))
    (fun os started H enc _ => textureTells_lifted os started H enc)
#print axioms textureTells_holds
end Go.Proofs.Ytimmbpcoagjcbaa
