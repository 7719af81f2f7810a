/- ArenaKeeps is proved: a handle that was given is held until it is killed, and never again from then on, whatever is made and killed; no two that were given are the same: the call returns true for any arena and acts. No condition. -/
import Derived.Test.YtfeiggldjajmbaaArenaK
import Derived.Test.YtfeiggldjajmbaaLaw
import Derived.Test.YtfeiggldjajmbaaOpen3
import Derived.Deep.DeepCutAuto
namespace Go.Proofs.Ytfeiggldjajmbaa
open Go.RowKit Go.ChangeShapes Go.WideShapes Go.ChangeAt
set_option linter.unusedSimpArgs false
set_option linter.unusedVariables false
attribute [local go_sem] plus_size plus_drew dn_set dn_alloc dn_plus plus_dn cell_plus frozen_plus set_plus cell_alloc frozen_alloc set_alloc

theorem lholds_is {ao : Option Addr} {n cap : Nat} {l : List Sl} {s g : Int} {w : World} {b : Bool} (h : holds l s g = b) (hl : Lay fS w ao n l) (hn : n ≤ 1000) :
    Calls Try.prog 20 #[.agg #[.slice ao n cap], .agg #[.int .i64 s, .int .i64 g]] w fun e w' => e = .returned (.bool b) ∧ Below w.heap.size w w' := by
  subst h
  exact lholds_calls ao n cap l s g w hl (by omega)
theorem name_world {α : Type} {F : α → World → Prop} {a : α} {w : World} (p : World → Prop) (hp : p w) (h : ∀ w', p w' → F a w') : F a w := h w hp

set_option maxRecDepth 100000 in
set_option maxHeartbeats 8000000 in
theorem arenaKeeps_walk (ao : Option Addr) (n cap : Nat) (l : List Sl) (la : Option Addr) (ln lc : Nat) (ls : List Int) (w : World) (hn : n ≤ 9223372036854775807) (hl : Lay fS w ao n l) (hn1 : ln ≤ 9223372036854775807) (hl1 : Lay fI w la ln ls) :
    Calls Try.prog 5 #[.agg #[.slice ao n cap], .slice la ln lc] w fun e w' => e = .returned (.bool true) ∧ Below w.heap.size w w' := by
  have hlen := hl.len
  have hlen1 := hl1.len
  by_cases hbig : 1000 < n
  · have ib : (1000 : Int) < (n : Int) := by omega
    go_enter Try.func5, Try.ntmps5
    go_wp2_with (go_at_call 9; refine (plus_post (aalive_calls _)).mono ?_; rintro e w' ⟨rfl, na, rfl⟩)
    go_ret
    exact ⟨rfl, by with_reducible repeat (first | exact Below.refl _ _ | apply ba | apply bp | apply bd | apply bn)⟩
  have ib : ¬ (1000 : Int) < (n : Int) := by omega
  have db := decide_eq_false ib
  by_cases hbig2 : 300 < ln
  · have ib2 : (300 : Int) < (ln : Int) := by omega
    go_enter Try.func5, Try.ntmps5
    go_wp2_with (go_at_call 9; refine (plus_post (aalive_calls _)).mono ?_; rintro e w' ⟨rfl, na, rfl⟩)
    go_ret
    exact ⟨rfl, by with_reducible repeat (first | exact Below.refl _ _ | apply ba | apply bp | apply bd | apply bn)⟩
  have ib2 : ¬ (300 : Int) < (ln : Int) := by omega
  have db2 := decide_eq_false ib2
  cases ho0 : arOk l
  · have hE : allErr l = 8 := by rw [allErr, ho0]; rfl
    go_enter Try.func5, Try.ntmps5
    go_wp2_with (first | (go_at_call 9; refine (plus_post (aalive_calls _)).mono ?_; rintro e w' ⟨rfl, na, rfl⟩) | (go_at_call 10; refine (plus_post (lcheck_calls _ _ _ l _ (hl.ex (by with_reducible repeat (first | exact ex_refl _ | exact ex_more | apply ex_alloc | apply ex_plus | apply ex_drew | apply ex_drewN))) (by omega))).mono ?_; rintro e w' ⟨rfl, nx, rfl⟩; rw [hE]))
    go_ret
    exact ⟨rfl, by with_reducible repeat (first | exact Below.refl _ _ | apply ba | apply bp | apply bd | apply bn)⟩
  have hE : allErr l = 0 := by rw [allErr, ho0]; rfl
  go_enter Try.func5, Try.ntmps5
  go_wp2_with (first | (go_at_call 9; refine (plus_post (aalive_calls _)).mono ?_; rintro e w' ⟨rfl, na, rfl⟩) | (go_at_call 10; refine (plus_post (lcheck_calls _ _ _ l _ (hl.ex (by with_reducible repeat (first | exact ex_refl _ | exact ex_more | apply ex_alloc | apply ex_plus | apply ex_drew | apply ex_drewN))) (by omega))).mono ?_; rintro e w' ⟨rfl, nx, rfl⟩; rw [hE]))
  go_loopw [6, 7, 8] (fun gvv lvv i wr => ∃ (k : Nat) (L : List Sl) (gv : List (Int × Int)) (lv : List Bool) (aa : Option Addr) (ac : Nat) (ga : Option Addr) (gc : Nat) (va : Option Addr) (vc : Nat), k ≤ ln ∧ gvv = .slice ga gv.length gc ∧ lvv = .slice va lv.length vc ∧ i = .int .i64 k ∧ gv.length ≤ k ∧ arOk L = true ∧ Keeps L gv lv ∧ KI w L gv lv aa ac ga gc va vc wr) (fun _ _ i _ => ln - (intOf i).toNat)
  case atStart => exact ⟨0, l, [], [], ao, cap, none, 0, none, 0, Nat.zero_le _, rfl, rfl, rfl, Nat.zero_le _, ho0, keeps_nil l, ⟨(by with_reducible repeat (first | exact ex_refl _ | exact ex_more | apply ex_alloc | apply ex_plus | apply ex_drew | apply ex_drewN)), blk_ex (w := (w.alloc (.cells #[.slice ao n cap] 24))) (by with_reducible repeat (first | exact ex_refl _ | exact ex_more | apply ex_alloc | apply ex_plus | apply ex_drew | apply ex_drewN)) (by rw [blk_alloc, if_pos rfl, hlen]), .inl (by rw [hlen]; exact hl), own_nil, own_nil⟩⟩
  case round =>
    obtain ⟨k, L, gv, lv, aa, ac, ga, gc, va, vc, hk, rfl, rfl, rfl, hgk, ho, hKp, hK⟩ := hrel
    have hLE : allErr L = 0 := by rw [allErr, ho]; rfl
    have h128 := arOk_len ho
    have cA := hK.cell
    have lA := hK.lt
    by_cases hkl : k < ln
    rotate_left
    · have ik : ¬ (k : Int) < (ln : Int) := by omega
      have hlay := hK.lay
      have hx := hK.ex
      go_wp2_with (go_at_call 10; refine (plus_post (lcheck_calls _ _ _ L _ (hlay.ex (by with_reducible repeat (first | exact ex_refl _ | exact ex_more | apply ex_alloc | apply ex_plus | apply ex_drew | apply ex_drewN | (apply ex_on; assumption)))) (by omega))).mono ?_; rintro e w' ⟨rfl, nx, rfl⟩; rw [hLE])
      go_ret
      exact ⟨rfl, below_ex (by with_reducible repeat (first | exact ex_refl _ | exact ex_more | apply ex_alloc | apply ex_plus | apply ex_drew | apply ex_drewN | (apply ex_on; assumption)))⟩
    have ik : (k : Int) < (ln : Int) := by omega
    obtain ⟨lg, lo, rfl, hlg, hlc⟩ := hl1.some (by omega)
    have c0 := cell_ex hK.ex (cellI hlen1 hlc (k := k) hkl)
    by_cases hneg : nth 0 ls k < 0
    · by_cases he : mkErr L = 0
      rotate_left
      · have he9 : mkErr L = 9 := by
          unfold mkErr at he ⊢
          rw [if_pos ho] at he ⊢
          split at he
          · exact absurd rfl he
          · rename_i h1
            rw [if_neg h1]
            split at he
            · rename_i h2; rw [if_pos h2]
            · exact absurd rfl he
        go_wp2_with (go_at_call 7; refine (lmake_calls _ _ _ L _ (hK.lay.ex (by with_reducible repeat (first | exact ex_refl _ | exact ex_more | apply ex_alloc | apply ex_plus | apply ex_drew | apply ex_drewN))) (by omega)).mono ?_; rw [he9]; rintro e w1 ⟨xa, xc, rfl, hw1, ox⟩)
        go_roundw
        case rel => exact ⟨k + 1, L, gv, lv, aa, ac, ga, gc, va, vc, by omega, rfl, rfl, by go_num, by omega, ho, hKp, hK.on (by with_reducible repeat (first | exact ex_refl _ | exact ex_more | apply ex_alloc | apply ex_plus | apply ex_drew | apply ex_drewN | (apply ex_on; assumption)))⟩
        case measure => simp [intOf]; omega
      have hR : mkRes L = mkList L := by rw [mkRes, if_pos he]
      have hS : mkS L = mkSlot L := by rw [mkS, if_pos he]
      have hG : mkG L = mkGen L := by rw [mkG, if_pos he]
      have hoM := mkList_ok he
      have hML := arOk_len hoM
      go_upto_region 14 with (go_at_call 7; refine (lmake_calls _ _ _ L _ (hK.lay.ex (by with_reducible repeat (first | exact ex_refl _ | exact ex_more | apply ex_alloc | apply ex_plus | apply ex_drew | apply ex_drewN))) (by omega)).mono ?_; rw [he, hR, hS, hG]; rintro e w1 ⟨xa, xc, rfl, hw1, ox⟩)
      have hsz := ex_size hK.ex
      have ox2 := (ox.ex (ex_alloc (o := (.cells #[.int .i64 (mkSlot L), .int .i64 (mkGen L)] 26)) (ex_alloc (o := (.cells #[.slice xa (mkList L).length xc] 24)) (ex_refl w1)))).base (T' := w) hsz
      have bH : ((w1.alloc (.cells #[.slice xa (mkList L).length xc] 24)).alloc (.cells #[.int .i64 (mkSlot L), .int .i64 (mkGen L)] 26)).heap[w1.heap.size + 1]? = some (.cells #[.int .i64 (mkSlot L), .int .i64 (mkGen L)] 26) := by rw [blk_alloc, if_pos (by simp)]
      have bX : ((w1.alloc (.cells #[.slice xa (mkList L).length xc] 24)).alloc (.cells #[.int .i64 (mkSlot L), .int .i64 (mkGen L)] 26)).heap[w1.heap.size]? = some (.cells #[.slice xa (mkList L).length xc] 24) := by rw [blk_alloc, if_neg (by simp), blk_alloc, if_pos rfl]
      have hK2 := hK.on (wr' := (w1.alloc (.cells #[.slice xa (mkList L).length xc] 24)).alloc (.cells #[.int .i64 (mkSlot L), .int .i64 (mkGen L)] 26)) (by with_reducible repeat (first | exact ex_refl _ | exact ex_more | apply ex_alloc | apply ex_plus | apply ex_drew | apply ex_drewN | (apply ex_on; assumption)))
      have hsz1 := ex_size hw1
      generalize (w1.alloc (.cells #[.slice xa (mkList L).length xc] 24)).alloc (.cells #[.int .i64 (mkSlot L), .int .i64 (mkGen L)] 26) = w2 at *
      clear hK c0 ox cA
      have cA := hK2.cell
      have cH := cell_blk (i := 0) bH rfl
      have cH' := cell_blk (i := 1) bH rfl
      have cX := cell_blk (i := 0) bX rfl
      have lH := blk_lt bH
      have fA := frozen_blk (i := 0) hK2.box
      go_wp2
      go_loopw [12] (fun i wr => ∃ q : Nat, q ≤ gv.length ∧ i = .int .i64 q ∧ ∃ x, wr = plus w2 x) (fun i _ => gv.length - (intOf i).toNat)
      case atStart => exact ⟨0, Nat.zero_le _, rfl, (by with_reducible repeat (first | exact ex_refl _ | exact ex_more | apply ex_alloc | apply ex_plus | apply ex_drew | apply ex_drewN))⟩
      case round =>
        obtain ⟨q, hq, rfl, x, rfl⟩ := hrel
        by_cases hql : q < gv.length
        · have iq : (q : Int) < (gv.length : Int) := by omega
          obtain ⟨gg, gcur, rfl, hgg, hgb, _⟩ := hK2.gs.blk (by omega)
          obtain ⟨_, _, eqa, hglt, hgc⟩ := hK2.gs.lay.some (by omega)
          cases eqa
          obtain ⟨g0, g1⟩ := cell2 hK2.gs.1 hgc (k := q) hql
          rw [Nat.zero_add] at g0 g1
          have hne := mk_new hKp hql
          by_cases e0 : (nth (0, 0) gv q).1 = mkSlot L
          · have e1 : ¬ (nth (0, 0) gv q).2 = mkGen L := fun e => hne (Prod.ext e0 e)
            have d1 : ((nth (0, 0) gv q).2 == mkGen L) = false := by rw [beq_eq_false_iff_ne]; exact e1
            go_wp2
            refine region_plus (by kernel_rfl) (by kernel_rfl) ?_
            (repeat (go_big_quiet_step (fail)))
            refine wpQuiet_nil ?_
            rintro _ ⟨x2, rfl⟩
            go_wp2
            go_roundw
            case rel => exact ⟨q + 1, by omega, by go_num, (by with_reducible repeat (first | exact ex_refl _ | exact ex_more | apply ex_alloc | apply ex_plus | apply ex_drew | apply ex_drewN))⟩
            case measure => simp [intOf]; omega
          · have d0 : ((nth (0, 0) gv q).1 == mkSlot L) = false := by rw [beq_eq_false_iff_ne]; exact e0
            go_wp2
            refine region_plus (by kernel_rfl) (by kernel_rfl) ?_
            (repeat (go_big_quiet_step (fail)))
            refine wpQuiet_nil ?_
            rintro _ ⟨x2, rfl⟩
            go_wp2
            go_roundw
            case rel => exact ⟨q + 1, by omega, by go_num, (by with_reducible repeat (first | exact ex_refl _ | exact ex_more | apply ex_alloc | apply ex_plus | apply ex_drew | apply ex_drewN))⟩
            case measure => simp [intOf]; omega
        · have iq : ¬ (q : Int) < (gv.length : Int) := by omega
          have hnh : holds L (mkSlot L) (mkGen L) = false := by rw [holds, mk_not_held, Bool.and_false]
          go_upto_region 22 with (go_at_call 20; refine (plus_post (lholds_is hnh (hK2.lay.ex (by with_reducible repeat (first | exact ex_refl _ | exact ex_more | apply ex_alloc | apply ex_plus | apply ex_drew | apply ex_drewN))) (by omega))).mono ?_; rintro e w' ⟨rfl, nx, rfl⟩)
          refine name_world (fun w' => KI w (mkList L) gv lv xa xc ga gc va vc w' ∧ w'.heap[w1.heap.size + 1]? = some (.cells #[.int .i64 (mkSlot L), .int .i64 (mkGen L)] 26)) ⟨(hK2.setBox ox2).on (by with_reducible repeat (first | exact ex_refl _ | exact ex_more | apply ex_alloc | apply ex_plus | apply ex_drew | apply ex_drewN)), blk_ex (by with_reducible repeat (first | exact ex_refl _ | exact ex_more | apply ex_alloc | apply ex_plus | apply ex_drew | apply ex_drewN)) ((blk_set_ne (by omega)).trans bH)⟩ ?_
          rintro w3 ⟨hK3, bH3⟩
          clear cA cH cH' cX fA bX bH ox2
          have cH := cell_blk (i := 0) bH3 rfl
          have cH' := cell_blk (i := 1) bH3 rfl
          have lH3 := blk_lt bH3
          have hgl : (gv ++ [(mkSlot L, mkGen L)]).length = gv.length + 1 := by simp
          have hll : (lv ++ [true]).length = lv.length + 1 := by simp
          have hgvl := hKp.len
          go_upto_region 23 with (at_builtin; refine wpList_append_lay2 (T := w) rfl _ _ rfl kinH f2_c f2_1 rfl (hK3.on (by with_reducible repeat (first | exact ex_refl _ | exact ex_more | apply ex_alloc | apply ex_plus | apply ex_drew | apply ex_drewN))).ex (hK3.on (by with_reducible repeat (first | exact ex_refl _ | exact ex_more | apply ex_alloc | apply ex_plus | apply ex_drew | apply ex_drewN))).gs rfl (l2 := [(mkSlot L, mkGen L)]) ⟨rfl, .inr ⟨_, 0, rfl, by (simp [go_sem]; try omega), fun jj u hu => by match jj, hu with | 0, hu => (simp [f2] at hu; subst hu; simp [go_sem, ↓IntWalk.iteOmega]) | 1, hu => (simp [f2] at hu; subst hu; simp [go_sem, ↓IntWalk.iteOmega]) | jj + 2, hu => simp [f2] at hu⟩⟩ (by omega) (by decide) ?_; intro ga2 gc2 w4 og hx4 hgr4; have hK4 : KI w (mkList L) (gv ++ [(mkSlot L, mkGen L)]) lv xa xc ga2 gc2 va vc w4 := (hK3.on (by with_reducible repeat (first | exact ex_refl _ | exact ex_more | apply ex_alloc | apply ex_plus | apply ex_drew | apply ex_drewN))).appG (by rw [hgl]; exact og) hx4 hgr4)
          clear cH cH'
          go_upto_region 31 with (at_builtin; refine wpList_append_lay2 (T := w) rfl _ _ rfl kinB fB_c fB_1 rfl (hK4.on (by with_reducible repeat (first | exact ex_refl _ | exact ex_more | apply ex_alloc | apply ex_plus | apply ex_drew | apply ex_drewN))).ex (hK4.on (by with_reducible repeat (first | exact ex_refl _ | exact ex_more | apply ex_alloc | apply ex_plus | apply ex_drew | apply ex_drewN))).ls rfl (l2 := [true]) ⟨rfl, .inr ⟨_, 0, rfl, by (simp [go_sem]; try omega), fun jj u hu => by match jj, hu with | 0, hu => (simp [fB] at hu; subst hu; simp [go_sem, ↓IntWalk.iteOmega]) | jj + 1, hu => simp [fB] at hu⟩⟩ (by omega) (by decide) ?_; intro va2 vc2 w5 ov hx5 hgr5; have hK5 : KI w (mkList L) (gv ++ [(mkSlot L, mkGen L)]) (lv ++ [true]) xa xc ga2 gc2 va2 vc2 w5 := (hK4.on (by with_reducible repeat (first | exact ex_refl _ | exact ex_more | apply ex_alloc | apply ex_plus | apply ex_drew | apply ex_drewN))).appL (by rw [hll]; exact ov) hx5 hgr5)
          have hKp2 := keeps_make hKp
          clear hK3 hK4
          generalize gv ++ [(mkSlot L, mkGen L)] = gv2 at *
          generalize lv ++ [true] = lv2 at *
          generalize hN : gv.length + 1 = N at *
          generalize hM : lv.length + 1 = M at *
          have cAx := hK5.cell
          have lAx := hK5.lt
          have hlayx := hK5.lay
          have h128x := arOk_len hoM
          have hlenx := hKp2.len
          go_wp2
          go_loopw [15] (fun i wz => ∃ q : Nat, q ≤ N ∧ i = .int .i64 q ∧ ∃ x, wz = plus w5 x) (fun i _ => N - (intOf i).toNat)
          case atStart => exact ⟨0, Nat.zero_le _, rfl, (by with_reducible repeat (first | exact ex_refl _ | exact ex_more | apply ex_alloc | apply ex_plus | apply ex_drew | apply ex_drewN))⟩
          case round =>
            obtain ⟨q, hq, rfl, x, rfl⟩ := hrel
            by_cases hql : q < N
            · have iq : (q : Int) < (N : Int) := by omega
              have iqm : (q : Int) < (M : Int) := by omega
              obtain ⟨gg, gcurx, rfl, hggx, hgbx, _⟩ := hK5.gs.blk (by omega)
              obtain ⟨_, _, eqa, hgltx, hgcx⟩ := hK5.gs.lay.some (by omega)
              cases eqa
              obtain ⟨g0, g1⟩ := cell2 hK5.gs.1 hgcx (k := q) (by omega)
              rw [Nat.zero_add] at g0 g1
              obtain ⟨vg, vcurx, rfl, hvgx, hvbx, _⟩ := hK5.ls.blk (by omega)
              obtain ⟨_, _, eqa, hvltx, hvcx⟩ := hK5.ls.lay.some (by omega)
              cases eqa
              have v0x := cellB hK5.ls.1 hvcx (k := q) (by omega)
              rw [Nat.zero_add] at v0x
              have hh := holds_keeps hoM hKp2 (k := q) (by omega)
              go_wp2
              refine region_plus (by kernel_rfl) (by kernel_rfl) ?_
              (repeat (go_big_quiet_step ((go_at_call 20; exact plus_of (lholds_is hh (hlayx.ex (by with_reducible repeat (first | exact ex_refl _ | exact ex_more | apply ex_alloc | apply ex_plus | apply ex_drew | apply ex_drewN))) (by omega))))))
              refine wpQuiet_nil ?_
              rintro _ ⟨x2, rfl⟩
              go_wp2
              go_roundw
              case rel => exact ⟨q + 1, by omega, by go_num, (by with_reducible repeat (first | exact ex_refl _ | exact ex_more | apply ex_alloc | apply ex_plus | apply ex_drew | apply ex_drewN))⟩
              case measure => simp [intOf]; omega
            · have iq : ¬ (q : Int) < (N : Int) := by omega
              go_wp2
              go_roundw
              case rel => exact ⟨k + 1, mkList L, gv2, lv2, xa, xc, ga2, gc2, va2, vc2, by omega, by first | rfl | (rw [hgl]; done) | (congr 1; omega), by first | rfl | (rw [hll]; done) | (congr 1; omega), by go_num, by omega, hoM, hKp2, hK5.on (by with_reducible repeat (first | exact ex_refl _ | exact ex_more | apply ex_alloc | apply ex_plus | apply ex_drew | apply ex_drewN))⟩
              case measure => simp [intOf]; omega
    · obtain ⟨p, hp⟩ : ∃ p : Nat, nth 0 ls k = (p : Int) := ⟨(nth 0 ls k).toNat, by omega⟩
      rw [hp] at c0
      clear hneg
      have ip : ¬ (p : Int) < 0 := by omega
      have dp := decide_eq_false ip
      have hgvl := hKp.len
      by_cases hpl : p < gv.length
      rotate_left
      · have ipl : ¬ (p : Int) < (gv.length : Int) := by omega
        clear hgvl
        have hgl : gv.length = gv.length := rfl
        have hll : lv.length = lv.length := rfl
        go_upto_region 31 with fail
        have cAx := hK.cell
        have lAx := hK.lt
        have hlayx := hK.lay
        have h128x := arOk_len ho
        have hlenx := hKp.len
        go_wp2
        go_loopw [15] (fun i wz => ∃ q : Nat, q ≤ gv.length ∧ i = .int .i64 q ∧ ∃ x, wz = plus wr x) (fun i _ => gv.length - (intOf i).toNat)
        case atStart => exact ⟨0, Nat.zero_le _, rfl, (by with_reducible repeat (first | exact ex_refl _ | exact ex_more | apply ex_alloc | apply ex_plus | apply ex_drew | apply ex_drewN))⟩
        case round =>
          obtain ⟨q, hq, rfl, x, rfl⟩ := hrel
          by_cases hql : q < gv.length
          · have iq : (q : Int) < (gv.length : Int) := by omega
            have iqm : (q : Int) < (lv.length : Int) := by omega
            obtain ⟨gg, gcurx, rfl, hggx, hgbx, _⟩ := hK.gs.blk (by omega)
            obtain ⟨_, _, eqa, hgltx, hgcx⟩ := hK.gs.lay.some (by omega)
            cases eqa
            obtain ⟨g0, g1⟩ := cell2 hK.gs.1 hgcx (k := q) (by omega)
            rw [Nat.zero_add] at g0 g1
            obtain ⟨vg, vcurx, rfl, hvgx, hvbx, _⟩ := hK.ls.blk (by omega)
            obtain ⟨_, _, eqa, hvltx, hvcx⟩ := hK.ls.lay.some (by omega)
            cases eqa
            have v0x := cellB hK.ls.1 hvcx (k := q) (by omega)
            rw [Nat.zero_add] at v0x
            have hh := holds_keeps ho hKp (k := q) (by omega)
            go_wp2
            refine region_plus (by kernel_rfl) (by kernel_rfl) ?_
            (repeat (go_big_quiet_step ((go_at_call 20; exact plus_of (lholds_is hh (hlayx.ex (by with_reducible repeat (first | exact ex_refl _ | exact ex_more | apply ex_alloc | apply ex_plus | apply ex_drew | apply ex_drewN))) (by omega))))))
            refine wpQuiet_nil ?_
            rintro _ ⟨x2, rfl⟩
            go_wp2
            go_roundw
            case rel => exact ⟨q + 1, by omega, by go_num, (by with_reducible repeat (first | exact ex_refl _ | exact ex_more | apply ex_alloc | apply ex_plus | apply ex_drew | apply ex_drewN))⟩
            case measure => simp [intOf]; omega
          · have iq : ¬ (q : Int) < (gv.length : Int) := by omega
            go_wp2
            go_roundw
            case rel => exact ⟨k + 1, L, gv, lv, aa, ac, ga, gc, va, vc, by omega, by first | rfl | (rw [hgl]; done) | (congr 1; omega), by first | rfl | (rw [hll]; done) | (congr 1; omega), by go_num, by omega, ho, hKp, hK.on (by with_reducible repeat (first | exact ex_refl _ | exact ex_more | apply ex_alloc | apply ex_plus | apply ex_drew | apply ex_drewN))⟩
            case measure => simp [intOf]; omega
      have ipl : (p : Int) < (gv.length : Int) := by omega
      have ipm : (p : Int) < (lv.length : Int) := by omega
      have hpm : p < lv.length := by omega
      clear hgvl
      obtain ⟨gg, gcur, rfl, hgg, hgb, _⟩ := hK.gs.blk (by omega)
      obtain ⟨_, _, eqa, hglt, hgc⟩ := hK.gs.lay.some (by omega)
      cases eqa
      obtain ⟨g0, g1⟩ := cell2 hK.gs.1 hgc (k := p) hpl
      rw [Nat.zero_add] at g0 g1
      obtain ⟨vg, vcur, rfl, hvg, hvb, _⟩ := hK.ls.blk (by omega)
      obtain ⟨_, _, eqa, hvlt, hvc⟩ := hK.ls.lay.some (by omega)
      cases eqa
      have v0 := cellB hK.ls.1 hvc (k := p) hpm
      rw [Nat.zero_add] at v0
      have hsz := ex_size hK.ex
      cases hh : heldIn L (nth (0, 0) gv p).1 (nth (0, 0) gv p).2
      · skip
        have hkE : killErr L (nth (0, 0) gv p).1 (nth (0, 0) gv p).2 = 50 := by rw [killErr, if_pos ho, hh]; rfl
        have hkR : killRes L (nth (0, 0) gv p).1 (nth (0, 0) gv p).2 = [] := by rw [killRes, hkE]; rfl
        have hvp : nth false lv p = false := by rw [← hKp.is p hpl]; exact hh
        rw [hvp] at v0
        go_upto_region 25 with fail
        refine region_relD 15 k25S (k25Φ w wr.heap.size (.agg #[.slice aa L.length ac]) (.slice (some ⟨gg, 0, none⟩) gv.length gc) (.slice (some ⟨lg, lo, none⟩) ln lc) k p lg lo gg (nth (0, 0) gv p).1 (nth (0, 0) gv p).2 50 ([])) (Fill 13 wr.heap.size (.slice none 0 0) 24) fill_trans (fill_draw _) (by kernel_rfl) (by kernel_rfl) (by decide) (k25Φ_mono _ _ _ _ _ _ _ _ _ _ _ _ _ _) ?steps ?fin
        case steps =>
          refine ⟨?_, ?_, ?_, ?_, ?_, ?_, ?_, ?_, ?_, ?_, ?_, ?_, ?_, ?_, ?_, trivial⟩
          · intro a D w' hg hfree hdeep hD
            obtain ⟨x, rfl⟩ := fill_ex hg (ex_refl _) (Nat.le_refl _)
            have f2 := hfree 2 (by kernel_rfl)
            simp only [k25Φ, got] at f2
            simp [go_sem] at f2
            unfold Oper.wp
            simp [go_sem, execOp, Act.eval, ↓IntWalk.iteOmega, f2, cA]
            exact ⟨_, rfl, fill_grow (ex_refl _), by simp [k25Φ, upd]⟩
          · intro a D w' hg hfree hdeep hD
            obtain ⟨x, rfl⟩ := fill_ex hg (ex_refl _) (Nat.le_refl _)
            have f6 := hfree 6 (by kernel_rfl)
            simp only [k25Φ, got] at f6
            simp [go_sem] at f6
            unfold Oper.wp
            simp [go_sem, execOp, Act.eval, ↓IntWalk.iteOmega, f6]
            exact ⟨_, rfl, fill_grow (ex_refl _), by simp [k25Φ, upd]⟩
          · intro a D w' hg hfree hdeep hD
            obtain ⟨x, rfl⟩ := fill_ex hg (ex_refl _) (Nat.le_refl _)
            have f1 := hfree 1 (by kernel_rfl)
            simp only [k25Φ, got] at f1
            simp [go_sem] at f1
            unfold Oper.wp
            simp [go_sem, execOp, Act.eval, ↓IntWalk.iteOmega, f1]
            exact ⟨_, rfl, fill_grow (ex_refl _), by simp [k25Φ, upd]⟩
          · intro a D w' hg hfree hdeep hD
            obtain ⟨x, rfl⟩ := fill_ex hg (ex_refl _) (Nat.le_refl _)
            have f8 := hfree 8 (by kernel_rfl)
            simp only [k25Φ, got] at f8
            simp [go_sem] at f8
            unfold Oper.wp
            simp [go_sem, execOp, Act.eval, ↓IntWalk.iteOmega, f8]
            exact ⟨_, rfl, fill_grow (ex_refl _), by simp [k25Φ, upd]⟩
          · intro a D w' hg hfree hdeep hD
            obtain ⟨x, rfl⟩ := fill_ex hg (ex_refl _) (Nat.le_refl _)
            have d2 := hdeep 2 (by kernel_rfl)
            have d3 := hdeep 3 (by kernel_rfl)
            simp only [k25Φ, got] at d2 d3
            unfold Oper.wp
            simp [go_sem, execOp, Act.eval, ↓IntWalk.iteOmega, d2, d3]
            exact ⟨_, rfl, fill_grow (ex_refl _), by simp [k25Φ, upd]⟩
          · intro a D w' hg hfree hdeep hD
            obtain ⟨x, rfl⟩ := fill_ex hg (ex_refl _) (Nat.le_refl _)
            have d4 := hdeep 4 (by kernel_rfl)
            simp only [k25Φ, got] at d4
            unfold Oper.wp
            simp [go_sem, execOp, Act.eval, ↓IntWalk.iteOmega, d4, c0]
            exact ⟨_, rfl, fill_grow (ex_refl _), by simp [k25Φ, upd]⟩
          · intro a D w' hg hfree hdeep hD
            obtain ⟨x, rfl⟩ := fill_ex hg (ex_refl _) (Nat.le_refl _)
            have d1 := hdeep 1 (by kernel_rfl)
            have d5 := hdeep 5 (by kernel_rfl)
            simp only [k25Φ, got] at d1 d5
            unfold Oper.wp
            simp [go_sem, execOp, Act.eval, ↓IntWalk.iteOmega, d1, d5]
            exact ⟨_, rfl, fill_grow (ex_refl _), by simp [k25Φ, upd]⟩
          · intro a D w' hg hfree hdeep hD
            obtain ⟨x, rfl⟩ := fill_ex hg (ex_refl _) (Nat.le_refl _)
            have d6 := hdeep 6 (by kernel_rfl)
            simp only [k25Φ, got] at d6
            unfold Oper.wp
            simp [go_sem, execOp, Act.eval, ↓IntWalk.iteOmega, d6, g0, g1]
            exact ⟨_, rfl, fill_grow (ex_refl _), by simp [k25Φ, upd]⟩
          · intro a D w' hg hfree hdeep hD
            obtain ⟨x, rfl⟩ := fill_ex hg (ex_refl _) (Nat.le_refl _)
            have d0 := hdeep 0 (by kernel_rfl)
            have d7 := hdeep 7 (by kernel_rfl)
            simp only [k25Φ, got] at d0 d7
            unfold Oper.wp
            simp [go_sem, execOp, Act.eval, ↓IntWalk.iteOmega, d0, d7]
            refine (lkill_is (r := []) (er := 50) (n' := ([]).length) hkR hkE rfl (hK.lay.ex (by with_reducible repeat (first | exact ex_refl _ | exact ex_more | apply ex_alloc | apply ex_plus | apply ex_drew | apply ex_drewN))) (by omega)).mono ?_; rintro e w1 ⟨xa, xc, rfl, hw1, o1⟩; exact ⟨_, rfl, fill_grow hw1, xa, xc, by simp [upd], o1.base (by rw [plus_size]; omega)⟩
          · intro a D w' hg hfree hdeep hD
            obtain ⟨x, rfl⟩ := fill_ex hg (ex_refl _) (Nat.le_refl _)
            have d8 := hdeep 8 (by kernel_rfl)
            simp only [k25Φ, got] at d8
            obtain ⟨xa, xc, e8, o1⟩ := d8
            unfold Oper.wp
            simp [go_sem, execOp, Act.eval, ↓IntWalk.iteOmega, e8]
            exact ⟨_, rfl, fill_grow (ex_refl _), xa, xc, by simp [upd], o1⟩
          · intro a D w' hg hfree hdeep hD
            obtain ⟨x, rfl⟩ := fill_ex hg (ex_refl _) (Nat.le_refl _)
            have d9 := hdeep 9 (by kernel_rfl)
            simp only [k25Φ, got] at d9
            obtain ⟨xa, xc, e9, o1⟩ := d9
            unfold Oper.wp
            simp [go_sem, execOp, Act.eval, ↓IntWalk.iteOmega, e9]
            exact ⟨_, rfl, fill_grow (ex_refl _), xa, xc, by simp [upd], o1⟩
          · intro a D w' hg hfree hdeep hD
            obtain ⟨x, rfl⟩ := fill_ex hg (ex_refl _) (Nat.le_refl _)
            have d9 := hdeep 9 (by kernel_rfl)
            simp only [k25Φ, got] at d9
            obtain ⟨xa, xc, e9, o1⟩ := d9
            unfold Oper.wp
            simp [go_sem, execOp, Act.eval, ↓IntWalk.iteOmega, e9]
            exact ⟨_, rfl, fill_grow (ex_refl _), by simp [k25Φ, upd]⟩
          · intro a D w' hg hfree hdeep hD
            obtain ⟨x, rfl⟩ := fill_ex hg (ex_refl _) (Nat.le_refl _)
            unfold Oper.wp
            simp [go_sem, execOp, Act.eval, ↓IntWalk.iteOmega]
            exact ⟨_, rfl, fill_grow (ex_alloc (ex_refl _)), wr.heap.size + (blocks x).size, by simp [upd], by omega, fun _ => by rw [blk_alloc, if_pos (by rw [plus_size])]⟩
          · intro a D w' hg hfree hdeep hD
            have d10 := hdeep 10 (by kernel_rfl)
            have d12 := hdeep 12 (by kernel_rfl)
            simp only [k25Φ, got] at d10 d12
            obtain ⟨xa, xc, e10, o1⟩ := d10
            obtain ⟨px, e12, hpx, hz⟩ := d12
            have hD' : D 13 = false := hD
            have hzz := hz hD'
            have cz := cell_blk (i := 0) hzz rfl
            have fz := frozen_blk (i := 0) hzz
            unfold Oper.wp
            simp [go_sem, execOp, Act.eval, e10, e12, cz, fz]
            exact ⟨fill_set hD' hpx hzz, undef, also_self 13, px, xa, xc, by simp [upd, got, e12], hpx, blk_set_eq hzz, o1.fill (fill_set hD' hpx hzz) (by decide)⟩
          · intro a D w' hg hfree hdeep hD
            obtain ⟨x, rfl⟩ := fill_ex hg (ex_refl _) (Nat.le_refl _)
            have d11 := hdeep 11 (by kernel_rfl)
            simp only [k25Φ, got] at d11
            unfold Oper.wp
            simp [go_sem, execOp, Act.eval, ↓IntWalk.iteOmega, d11]
            exact ⟨_, rfl, fill_grow (ex_refl _), by simp [k25Φ, upd]⟩
        case fin =>
          rintro t D w4 hall hg hΦ
          have h13 := hΦ 13 (by decide)
          have h14 := hΦ 14 (by decide)
          simp only [k25Φ] at h13 h14
          obtain ⟨_, px, xa, xc, e13, hpx, bx, ox⟩ := h13
          have hx4 := fill_ex hg (ex_refl wr) (Nat.le_refl _)
          have hK4 := hK.on hx4
          have c04 := cell_ex hx4 c0
          have v04 := cell_ex hx4 v0
          have hvb4 := blk_ex hx4 hvb
          have hsz4 := ex_size hx4
          simp only [putAll, List.take_succ_cons, List.take_zero, List.take_nil, Act.put]
          simp only [List.setIfInBounds_toArray, List.set_cons_succ, List.set_cons_zero, e13, h14]
          simp only [List.drop_succ_cons, List.drop_zero, List.drop_nil]
          clear hΦ hg hall hK v0 c0 hvb g0 g1 cA
          have cX := cell_blk (i := 0) bx rfl
          have cA := hK4.cell
          have fA := frozen_blk (i := 0) hK4.box
          have fV := frozen_blk (i := p) hvb4
          have nv : vg ≠ w.heap.size := by
            intro e0
            rw [e0, hK4.box] at hvb4
            cases hvb4
          have nv' : ¬ w.heap.size = vg := fun e => nv e.symm
          go_upto_region 31 with fail
          refine name_world (fun w' => KI w L gv (lv.set p false) aa ac (some ⟨gg, 0, none⟩) gc (some ⟨vg, 0, none⟩) vc w') (hK4.setLive (by omega)) ?_
          intro w6 hK6
          have hKp6 := keeps_stale hKp hpl hh
          have ho6 := ho
          clear hK4 cX cA fA fV c04 v04 hvb4 bx ox
          have hgl : gv.length = gv.length := rfl
          have hll : (lv.set p false).length = lv.length := List.length_set
          have cAx := hK6.cell
          have lAx := hK6.lt
          have hlayx := hK6.lay
          have h128x := arOk_len ho6
          have hlenx := hKp6.len
          go_wp2
          go_loopw [15] (fun i wz => ∃ q : Nat, q ≤ gv.length ∧ i = .int .i64 q ∧ ∃ x, wz = plus w6 x) (fun i _ => gv.length - (intOf i).toNat)
          case atStart => exact ⟨0, Nat.zero_le _, rfl, (by with_reducible repeat (first | exact ex_refl _ | exact ex_more | apply ex_alloc | apply ex_plus | apply ex_drew | apply ex_drewN))⟩
          case round =>
            obtain ⟨q, hq, rfl, x, rfl⟩ := hrel
            by_cases hql : q < gv.length
            · have iq : (q : Int) < (gv.length : Int) := by omega
              have iqm : (q : Int) < (lv.length : Int) := by omega
              obtain ⟨_, gcurx, eqa, hggx, hgbx, _⟩ := hK6.gs.blk (by omega)
              cases eqa
              obtain ⟨_, _, eqa, hgltx, hgcx⟩ := hK6.gs.lay.some (by omega)
              cases eqa
              obtain ⟨g0, g1⟩ := cell2 hK6.gs.1 hgcx (k := q) (by omega)
              rw [Nat.zero_add] at g0 g1
              obtain ⟨_, vcurx, eqa, hvgx, hvbx, _⟩ := hK6.ls.blk (by omega)
              cases eqa
              obtain ⟨_, _, eqa, hvltx, hvcx⟩ := hK6.ls.lay.some (by omega)
              cases eqa
              have v0x := cellB hK6.ls.1 hvcx (k := q) (by omega)
              rw [Nat.zero_add] at v0x
              have hh := holds_keeps ho6 hKp6 (k := q) (by omega)
              go_wp2
              refine region_plus (by kernel_rfl) (by kernel_rfl) ?_
              (repeat (go_big_quiet_step ((go_at_call 20; exact plus_of (lholds_is hh (hlayx.ex (by with_reducible repeat (first | exact ex_refl _ | exact ex_more | apply ex_alloc | apply ex_plus | apply ex_drew | apply ex_drewN))) (by omega))))))
              refine wpQuiet_nil ?_
              rintro _ ⟨x2, rfl⟩
              go_wp2
              go_roundw
              case rel => exact ⟨q + 1, by omega, by go_num, (by with_reducible repeat (first | exact ex_refl _ | exact ex_more | apply ex_alloc | apply ex_plus | apply ex_drew | apply ex_drewN))⟩
              case measure => simp [intOf]; omega
            · have iq : ¬ (q : Int) < (gv.length : Int) := by omega
              go_wp2
              go_roundw
              case rel => exact ⟨k + 1, L, gv, (lv.set p false), aa, ac, (some ⟨gg, 0, none⟩), gc, (some ⟨vg, 0, none⟩), vc, by omega, by first | rfl | (rw [hgl]; done) | (congr 1; omega), by first | rfl | (rw [hll]; done) | (congr 1; omega), by go_num, by omega, ho6, hKp6, hK6.on (by with_reducible repeat (first | exact ex_refl _ | exact ex_more | apply ex_alloc | apply ex_plus | apply ex_drew | apply ex_drewN))⟩
              case measure => simp [intOf]; omega
      · skip
        have hkE : killErr L (nth (0, 0) gv p).1 (nth (0, 0) gv p).2 = 0 := by rw [killErr, if_pos ho, hh]; rfl
        have hkR : killRes L (nth (0, 0) gv p).1 (nth (0, 0) gv p).2 = killList L (nth (0, 0) gv p).1 := by rw [killRes, hkE]; rfl
        have hvp : nth false lv p = true := by rw [← hKp.is p hpl]; exact hh
        rw [hvp] at v0
        go_upto_region 25 with fail
        refine region_relD 15 k25S (k25Φ w wr.heap.size (.agg #[.slice aa L.length ac]) (.slice (some ⟨gg, 0, none⟩) gv.length gc) (.slice (some ⟨lg, lo, none⟩) ln lc) k p lg lo gg (nth (0, 0) gv p).1 (nth (0, 0) gv p).2 0 (killList L (nth (0, 0) gv p).1)) (Fill 13 wr.heap.size (.slice none 0 0) 24) fill_trans (fill_draw _) (by kernel_rfl) (by kernel_rfl) (by decide) (k25Φ_mono _ _ _ _ _ _ _ _ _ _ _ _ _ _) ?steps ?fin
        case steps =>
          refine ⟨?_, ?_, ?_, ?_, ?_, ?_, ?_, ?_, ?_, ?_, ?_, ?_, ?_, ?_, ?_, trivial⟩
          · intro a D w' hg hfree hdeep hD
            obtain ⟨x, rfl⟩ := fill_ex hg (ex_refl _) (Nat.le_refl _)
            have f2 := hfree 2 (by kernel_rfl)
            simp only [k25Φ, got] at f2
            simp [go_sem] at f2
            unfold Oper.wp
            simp [go_sem, execOp, Act.eval, ↓IntWalk.iteOmega, f2, cA]
            exact ⟨_, rfl, fill_grow (ex_refl _), by simp [k25Φ, upd]⟩
          · intro a D w' hg hfree hdeep hD
            obtain ⟨x, rfl⟩ := fill_ex hg (ex_refl _) (Nat.le_refl _)
            have f6 := hfree 6 (by kernel_rfl)
            simp only [k25Φ, got] at f6
            simp [go_sem] at f6
            unfold Oper.wp
            simp [go_sem, execOp, Act.eval, ↓IntWalk.iteOmega, f6]
            exact ⟨_, rfl, fill_grow (ex_refl _), by simp [k25Φ, upd]⟩
          · intro a D w' hg hfree hdeep hD
            obtain ⟨x, rfl⟩ := fill_ex hg (ex_refl _) (Nat.le_refl _)
            have f1 := hfree 1 (by kernel_rfl)
            simp only [k25Φ, got] at f1
            simp [go_sem] at f1
            unfold Oper.wp
            simp [go_sem, execOp, Act.eval, ↓IntWalk.iteOmega, f1]
            exact ⟨_, rfl, fill_grow (ex_refl _), by simp [k25Φ, upd]⟩
          · intro a D w' hg hfree hdeep hD
            obtain ⟨x, rfl⟩ := fill_ex hg (ex_refl _) (Nat.le_refl _)
            have f8 := hfree 8 (by kernel_rfl)
            simp only [k25Φ, got] at f8
            simp [go_sem] at f8
            unfold Oper.wp
            simp [go_sem, execOp, Act.eval, ↓IntWalk.iteOmega, f8]
            exact ⟨_, rfl, fill_grow (ex_refl _), by simp [k25Φ, upd]⟩
          · intro a D w' hg hfree hdeep hD
            obtain ⟨x, rfl⟩ := fill_ex hg (ex_refl _) (Nat.le_refl _)
            have d2 := hdeep 2 (by kernel_rfl)
            have d3 := hdeep 3 (by kernel_rfl)
            simp only [k25Φ, got] at d2 d3
            unfold Oper.wp
            simp [go_sem, execOp, Act.eval, ↓IntWalk.iteOmega, d2, d3]
            exact ⟨_, rfl, fill_grow (ex_refl _), by simp [k25Φ, upd]⟩
          · intro a D w' hg hfree hdeep hD
            obtain ⟨x, rfl⟩ := fill_ex hg (ex_refl _) (Nat.le_refl _)
            have d4 := hdeep 4 (by kernel_rfl)
            simp only [k25Φ, got] at d4
            unfold Oper.wp
            simp [go_sem, execOp, Act.eval, ↓IntWalk.iteOmega, d4, c0]
            exact ⟨_, rfl, fill_grow (ex_refl _), by simp [k25Φ, upd]⟩
          · intro a D w' hg hfree hdeep hD
            obtain ⟨x, rfl⟩ := fill_ex hg (ex_refl _) (Nat.le_refl _)
            have d1 := hdeep 1 (by kernel_rfl)
            have d5 := hdeep 5 (by kernel_rfl)
            simp only [k25Φ, got] at d1 d5
            unfold Oper.wp
            simp [go_sem, execOp, Act.eval, ↓IntWalk.iteOmega, d1, d5]
            exact ⟨_, rfl, fill_grow (ex_refl _), by simp [k25Φ, upd]⟩
          · intro a D w' hg hfree hdeep hD
            obtain ⟨x, rfl⟩ := fill_ex hg (ex_refl _) (Nat.le_refl _)
            have d6 := hdeep 6 (by kernel_rfl)
            simp only [k25Φ, got] at d6
            unfold Oper.wp
            simp [go_sem, execOp, Act.eval, ↓IntWalk.iteOmega, d6, g0, g1]
            exact ⟨_, rfl, fill_grow (ex_refl _), by simp [k25Φ, upd]⟩
          · intro a D w' hg hfree hdeep hD
            obtain ⟨x, rfl⟩ := fill_ex hg (ex_refl _) (Nat.le_refl _)
            have d0 := hdeep 0 (by kernel_rfl)
            have d7 := hdeep 7 (by kernel_rfl)
            simp only [k25Φ, got] at d0 d7
            unfold Oper.wp
            simp [go_sem, execOp, Act.eval, ↓IntWalk.iteOmega, d0, d7]
            refine (lkill_is (r := killList L (nth (0, 0) gv p).1) (er := 0) (n' := (killList L (nth (0, 0) gv p).1).length) hkR hkE rfl (hK.lay.ex (by with_reducible repeat (first | exact ex_refl _ | exact ex_more | apply ex_alloc | apply ex_plus | apply ex_drew | apply ex_drewN))) (by omega)).mono ?_; rintro e w1 ⟨xa, xc, rfl, hw1, o1⟩; exact ⟨_, rfl, fill_grow hw1, xa, xc, by simp [upd], o1.base (by rw [plus_size]; omega)⟩
          · intro a D w' hg hfree hdeep hD
            obtain ⟨x, rfl⟩ := fill_ex hg (ex_refl _) (Nat.le_refl _)
            have d8 := hdeep 8 (by kernel_rfl)
            simp only [k25Φ, got] at d8
            obtain ⟨xa, xc, e8, o1⟩ := d8
            unfold Oper.wp
            simp [go_sem, execOp, Act.eval, ↓IntWalk.iteOmega, e8]
            exact ⟨_, rfl, fill_grow (ex_refl _), xa, xc, by simp [upd], o1⟩
          · intro a D w' hg hfree hdeep hD
            obtain ⟨x, rfl⟩ := fill_ex hg (ex_refl _) (Nat.le_refl _)
            have d9 := hdeep 9 (by kernel_rfl)
            simp only [k25Φ, got] at d9
            obtain ⟨xa, xc, e9, o1⟩ := d9
            unfold Oper.wp
            simp [go_sem, execOp, Act.eval, ↓IntWalk.iteOmega, e9]
            exact ⟨_, rfl, fill_grow (ex_refl _), xa, xc, by simp [upd], o1⟩
          · intro a D w' hg hfree hdeep hD
            obtain ⟨x, rfl⟩ := fill_ex hg (ex_refl _) (Nat.le_refl _)
            have d9 := hdeep 9 (by kernel_rfl)
            simp only [k25Φ, got] at d9
            obtain ⟨xa, xc, e9, o1⟩ := d9
            unfold Oper.wp
            simp [go_sem, execOp, Act.eval, ↓IntWalk.iteOmega, e9]
            exact ⟨_, rfl, fill_grow (ex_refl _), by simp [k25Φ, upd]⟩
          · intro a D w' hg hfree hdeep hD
            obtain ⟨x, rfl⟩ := fill_ex hg (ex_refl _) (Nat.le_refl _)
            unfold Oper.wp
            simp [go_sem, execOp, Act.eval, ↓IntWalk.iteOmega]
            exact ⟨_, rfl, fill_grow (ex_alloc (ex_refl _)), wr.heap.size + (blocks x).size, by simp [upd], by omega, fun _ => by rw [blk_alloc, if_pos (by rw [plus_size])]⟩
          · intro a D w' hg hfree hdeep hD
            have d10 := hdeep 10 (by kernel_rfl)
            have d12 := hdeep 12 (by kernel_rfl)
            simp only [k25Φ, got] at d10 d12
            obtain ⟨xa, xc, e10, o1⟩ := d10
            obtain ⟨px, e12, hpx, hz⟩ := d12
            have hD' : D 13 = false := hD
            have hzz := hz hD'
            have cz := cell_blk (i := 0) hzz rfl
            have fz := frozen_blk (i := 0) hzz
            unfold Oper.wp
            simp [go_sem, execOp, Act.eval, e10, e12, cz, fz]
            exact ⟨fill_set hD' hpx hzz, undef, also_self 13, px, xa, xc, by simp [upd, got, e12], hpx, blk_set_eq hzz, o1.fill (fill_set hD' hpx hzz) (by decide)⟩
          · intro a D w' hg hfree hdeep hD
            obtain ⟨x, rfl⟩ := fill_ex hg (ex_refl _) (Nat.le_refl _)
            have d11 := hdeep 11 (by kernel_rfl)
            simp only [k25Φ, got] at d11
            unfold Oper.wp
            simp [go_sem, execOp, Act.eval, ↓IntWalk.iteOmega, d11]
            exact ⟨_, rfl, fill_grow (ex_refl _), by simp [k25Φ, upd]⟩
        case fin =>
          rintro t D w4 hall hg hΦ
          have h13 := hΦ 13 (by decide)
          have h14 := hΦ 14 (by decide)
          simp only [k25Φ] at h13 h14
          obtain ⟨_, px, xa, xc, e13, hpx, bx, ox⟩ := h13
          have hx4 := fill_ex hg (ex_refl wr) (Nat.le_refl _)
          have hK4 := hK.on hx4
          have c04 := cell_ex hx4 c0
          have v04 := cell_ex hx4 v0
          have hvb4 := blk_ex hx4 hvb
          have hsz4 := ex_size hx4
          simp only [putAll, List.take_succ_cons, List.take_zero, List.take_nil, Act.put]
          simp only [List.setIfInBounds_toArray, List.set_cons_succ, List.set_cons_zero, e13, h14]
          simp only [List.drop_succ_cons, List.drop_zero, List.drop_nil]
          clear hΦ hg hall hK v0 c0 hvb g0 g1 cA
          have cX := cell_blk (i := 0) bx rfl
          have cA := hK4.cell
          have fA := frozen_blk (i := 0) hK4.box
          have fV := frozen_blk (i := p) hvb4
          have nv : vg ≠ w.heap.size := by
            intro e0
            rw [e0, hK4.box] at hvb4
            cases hvb4
          have nv' : ¬ w.heap.size = vg := fun e => nv e.symm
          have hRl : (killList L (nth (0, 0) gv p).1).length ≤ 128 := by rw [killList, List.length_set]; exact h128
          have v05 : (w4.setCell ⟨w.heap.size, 0, none⟩ (.slice xa (killList L (nth (0, 0) gv p).1).length xc)).cell? ⟨vg, p, none⟩ = some (.bool true) := by rw [World.cell?_of_block (w := w4) (blk_set_ne nv')]; exact v04
          have f05 : (w4.setCell ⟨w.heap.size, 0, none⟩ (.slice xa (killList L (nth (0, 0) gv p).1).length xc)).frozen? ⟨vg, p, none⟩ = false := by rw [World.frozen?_of_block (w := w4) (blk_set_ne nv')]; exact fV
          have c05 : (w4.setCell ⟨w.heap.size, 0, none⟩ (.slice xa (killList L (nth (0, 0) gv p).1).length xc)).cell? ⟨lg, lo + k, none⟩ = some (.int .i64 p) := by rw [World.cell?_of_block (w := w4) (blk_set_ne (show ¬ w.heap.size = lg by omega))]; exact c04
          go_upto_region 31 with fail
          refine name_world (fun w' => KI w (killList L (nth (0, 0) gv p).1) gv (lv.set p false) xa xc (some ⟨gg, 0, none⟩) gc (some ⟨vg, 0, none⟩) vc w') ((hK4.setBox ox).setLive (by omega)) ?_
          intro w6 hK6
          have hKp6 := keeps_kill hKp hpl hh
          have ho6 := killList_ok ho (s := (nth (0, 0) gv p).1) (by have := hKp.rng p hpl; omega)
          clear hK4 cX cA fA fV c04 v04 hvb4 bx ox v05 f05 c05
          have hgl : gv.length = gv.length := rfl
          have hll : (lv.set p false).length = lv.length := List.length_set
          have cAx := hK6.cell
          have lAx := hK6.lt
          have hlayx := hK6.lay
          have h128x := arOk_len ho6
          have hlenx := hKp6.len
          go_wp2
          go_loopw [15] (fun i wz => ∃ q : Nat, q ≤ gv.length ∧ i = .int .i64 q ∧ ∃ x, wz = plus w6 x) (fun i _ => gv.length - (intOf i).toNat)
          case atStart => exact ⟨0, Nat.zero_le _, rfl, (by with_reducible repeat (first | exact ex_refl _ | exact ex_more | apply ex_alloc | apply ex_plus | apply ex_drew | apply ex_drewN))⟩
          case round =>
            obtain ⟨q, hq, rfl, x, rfl⟩ := hrel
            by_cases hql : q < gv.length
            · have iq : (q : Int) < (gv.length : Int) := by omega
              have iqm : (q : Int) < (lv.length : Int) := by omega
              obtain ⟨_, gcurx, eqa, hggx, hgbx, _⟩ := hK6.gs.blk (by omega)
              cases eqa
              obtain ⟨_, _, eqa, hgltx, hgcx⟩ := hK6.gs.lay.some (by omega)
              cases eqa
              obtain ⟨g0, g1⟩ := cell2 hK6.gs.1 hgcx (k := q) (by omega)
              rw [Nat.zero_add] at g0 g1
              obtain ⟨_, vcurx, eqa, hvgx, hvbx, _⟩ := hK6.ls.blk (by omega)
              cases eqa
              obtain ⟨_, _, eqa, hvltx, hvcx⟩ := hK6.ls.lay.some (by omega)
              cases eqa
              have v0x := cellB hK6.ls.1 hvcx (k := q) (by omega)
              rw [Nat.zero_add] at v0x
              have hh := holds_keeps ho6 hKp6 (k := q) (by omega)
              go_wp2
              refine region_plus (by kernel_rfl) (by kernel_rfl) ?_
              (repeat (go_big_quiet_step ((go_at_call 20; exact plus_of (lholds_is hh (hlayx.ex (by with_reducible repeat (first | exact ex_refl _ | exact ex_more | apply ex_alloc | apply ex_plus | apply ex_drew | apply ex_drewN))) (by omega))))))
              refine wpQuiet_nil ?_
              rintro _ ⟨x2, rfl⟩
              go_wp2
              go_roundw
              case rel => exact ⟨q + 1, by omega, by go_num, (by with_reducible repeat (first | exact ex_refl _ | exact ex_more | apply ex_alloc | apply ex_plus | apply ex_drew | apply ex_drewN))⟩
              case measure => simp [intOf]; omega
            · have iq : ¬ (q : Int) < (gv.length : Int) := by omega
              go_wp2
              go_roundw
              case rel => exact ⟨k + 1, killList L (nth (0, 0) gv p).1, gv, (lv.set p false), xa, xc, (some ⟨gg, 0, none⟩), gc, (some ⟨vg, 0, none⟩), vc, by omega, by first | rfl | (rw [hgl]; done) | (congr 1; omega), by first | rfl | (rw [hll]; done) | (congr 1; omega), by go_num, by omega, ho6, hKp6, hK6.on (by with_reducible repeat (first | exact ex_refl _ | exact ex_more | apply ex_alloc | apply ex_plus | apply ex_drew | apply ex_drewN))⟩
              case measure => simp [intOf]; omega

set_option maxRecDepth 100000 in
theorem arenaKeeps_lifted (os : Os) (started : os.Started) (H : Type) (enc : TypeId × Value → H) :
    ReturnsInHanded {} Try.checked os 5 .any (Rows.arenaKeepsSpec.pre6 enc Try.prog Try.f5 Rows.arenaKeepsRow.domain false) (Rows.arenaKeepsSpec.post enc Try.prog Try.f5 false true false false) := by
  refine returnsInHanded_of_change (C := Try.checked) own started (by kernel_rfl) Try.func5
    (ChangeSpec.witness6 (enc := enc) (C := Try.checked) false ⟨#[], #[.agg #[.slice none 0 0], .slice none 0 0], []⟩ 8 (by kernel_rfl) (by kernel_rfl) (by kernel_rfl) (by kernel_rfl)) ?_
  intro W base args ds gs before hval0 hW hcnd _
  have hval : ∀ (j : Nat) t v, Try.f5.params[j]? = some t → args[j]? = some v → Value.okWide Try.prog W .any base t v := hval0
  have hW' := hW
  obtain ⟨p, q, hA0, hV, rfl, hfz, hnd⟩ := hW
  have hA : DataW.TrodAll enc Try.prog W 0 (fun _ => true) true Try.f5.params.toList args.toList ds p := hA0
  rw [Try.params5] at hA hval
  obtain ⟨v0, vs0, d0, ds0, p0, q0, hargs, rfl, rfl, h0, r0⟩ := trodAll_cons hA
  obtain ⟨v1, vs1, d1, ds1, p1, q1, rfl, rfl, rfl, h1, r1⟩ := trodAll_cons r0
  obtain ⟨rfl, rfl, rfl⟩ := trodAll_nil r1
  obtain rfl : args = #[v0, v1] := by cases args; simp_all
  obtain ⟨ao0, n0, cap0, l0, rfl, hn0, hz0, hl0⟩ := open_arena Try.underlying24 (by kernel_rfl) (by kernel_rfl) Try.underlying22 (by kernel_rfl) Try.underlying33 (by kernel_rfl) Try.underlying3 Try.underlying4 (hval 0 24 v0 rfl rfl) h0
  obtain ⟨fu1, x1, hx1⟩ := slice_cell Try.underlying51 (hval 1 51 v1 rfl rfl) h1
  obtain ⟨ao1, n1, cap1, rfl, hn1, _, ho1⟩ := open_sl (c := 1) Try.underlying51 (by kernel_rfl) (by decide) hx1
  obtain ⟨l1, hl1⟩ := lay_ints (by kernel_rfl) ho1
  refine (arenaKeeps_walk ao0 n0 cap0 l0 ao1 n1 cap1 l1  W hn0 hl0 hn1 hl1).mono fun e W' ⟨he, hb⟩ => ?_
  exact ⟨_, he, law_post laidOut Try.underlying4 rfl (by kernel_rfl) (by kernel_rfl) (fun ds h => match ds, h with | [_, _], _ => rfl) hW' hb⟩

theorem arenaKeeps_holds : Rows.ArenaKeepsSaid :=
  OpenClaim.holds_of_wide 5 Try.f5 rfl rfl rfl rfl rfl rfl rfl ⟨rfl, rfl, rfl, rfl, rfl⟩ rfl rfl rfl rfl rfl (by kernel_rfl) Try.func5 (by kernel_rfl)
    (of_decide_eq_true (by kernel_rfl)) (by unfold Func.isWrapper; first | (rw [if_pos (by decide +kernel)]; kernel_rfl) | (rw [if_neg (by decide +kernel)]; exact ⟨rfl, rfl⟩))
    (fun os started H enc _ => arenaKeeps_lifted os started H enc)
#print axioms arenaKeeps_holds
end Go.Proofs.Ytfeiggldjajmbaa
