/- A pack of texts: EdCk2, EdCk3, EdMay, EdOwn2, Made, EdTn, EdTwN, EdTwM. -/
import Derived.Deep.DeepCutAuto
import Derived.Laws.MakeOwn
import Derived.Test.YtcekcihijdipoaaGreatPT16
import Derived.Test.YtcekcihijdipoaaGreatPT18
import Derived.Test.YtcekcihijdipoaaGreatPT9
import Derived.Test.YtcekcihijdipoaaGreatPT8
import Derived.Test.YtcekcihijdipoaaGreatPT10
import Derived.Test.YtcekcihijdipoaaGreatPT4
import Derived.Test.YtcekcihijdipoaaGreatPT3
namespace Go.Proofs.YtcekcihijdipoaaGreat

section


open Go.RowKit Go.ChangeShapes Go.WideShapes Go.ChangeAt

set_option linter.unusedSimpArgs false

set_option linter.unusedVariables false

attribute [local go_sem] plus_size plus_drew dn_set dn_alloc dn_plus plus_dn cell_plus frozen_plus set_plus cell_alloc frozen_alloc set_alloc

theorem mcheck_at {w : World} {h : MH} {hs : List PH} {m : Ms} {er : Int} (he : msErr m = er) (hm : MeshAt w h hs m) : Calls Tryz.prog 77 #[.agg #[.slice h.va h.vn h.vc, .slice h.ua h.un h.uc, .slice h.pa h.pn h.pc]] w fun e w' => e = .returned (.int .i64 er) ∧ Below w.heap.size w w' :=
  he ▸ check_callsM _ _ _ _ _ _ _ _ _ hs m w hm

theorem badM_calls (h : MH) (hs : List PH) (m : Ms) {b : Bool} (hb : edMsOk m = b) (w : World) (hm : MeshAt w h hs m) : Calls Tryz.prog 76 #[.agg #[.slice h.va h.vn h.vc, .slice h.ua h.un h.uc, .slice h.pa h.pn h.pc]] w fun e w' => e = .returned (.bool !b) ∧ ∃ y, w' = plus w y := by
  subst hb
  unfold edMsOk
  obtain ⟨er, he⟩ : ∃ e, msErr m = e := ⟨_, rfl⟩
  rw [he]
  by_cases h0 : er = 0
  · subst h0
    go_enter Tryz.func76, Tryz.ntmps76
    go_wp2_with (go_at_call 77; refine (plus_post (mcheck_at he (hm.ex sk9))).mono ?_; rintro e w' ⟨rfl, nx, rfl⟩)
    go_ret
    exact ⟨rfl, sk9⟩
  · have d0 : (er == 0) = false := by rw [beq_eq_false_iff_ne]; exact h0
    go_enter Tryz.func76, Tryz.ntmps76
    go_wp2_with (go_at_call 77; refine (plus_post (mcheck_at he (hm.ex sk9))).mono ?_; rintro e w' ⟨rfl, nx, rfl⟩)
    go_ret
    exact ⟨by simp [h0], sk9⟩

set_option maxHeartbeats 2000000 in
theorem indexM_calls (ao : Option Addr) (n cap : Nat) (hs : List MH) (ps : List (List PH)) (ms : List Ms) (w : World) (hl : Lay fMh w ao n hs) (hM : MeshesAt w hs ps ms) (hn : n ≤ 9223372036854775807) :
    Calls Tryz.prog 133 #[.slice ao n cap, .func (.func 76) #[] #[]] w fun e w' => ∃ v : Int, e = .returned (.int .i64 v) ∧ decide (0 ≤ v) = (!ms.all edMsOk) ∧ ∃ y, w' = plus w y := by
  have hlen := hl.len
  have mlen := hM.len
  go_enter Tryz.func133, Tryz.ntmps133
  go_wp2
  go_loopw [8] (fun i wr => ∃ k : Nat, k ≤ n ∧ i = .int .i64 k ∧ (∀ j, j < k → edMsOk (nth ms0 ms j) = true) ∧ ∃ y, wr = plus w y) (fun i _ => n - (intOf i).toNat)
  case atStart => exact ⟨0, Nat.zero_le _, rfl, fun j hj => by omega, sk9⟩
  case round =>
    obtain ⟨k, hk, rfl, hs1, y, rfl⟩ := hrel
    by_cases hkl : k < n
    · obtain ⟨g, off, rfl, hg, hcell⟩ := hl.some (by omega)
      obtain ⟨c0, c1, c2⟩ := cellMh hlen hcell hkl
      have hone := hM.one k (by omega)
      have ik : (k : Int) < (n : Int) := by omega
      cases hok : edMsOk (nth ms0 ms k)
      · replace hok := Hush9.mk hok
        go_wp2_with (go_at_call 76; refine (badM_calls _ _ _ hok.it _ (hone.ex sk9)).mono ?_; rintro e w' ⟨rfl, nx, rfl⟩)
        go_ret
        exact ⟨k, rfl, by rw [all_not (k := k) (by omega) hok.it]; exact decide_eq_true (by omega), sk9⟩
      · replace hok := Hush9.mk hok
        go_wp2_with (go_at_call 76; refine (badM_calls _ _ _ hok.it _ (hone.ex sk9)).mono ?_; rintro e w' ⟨rfl, nx, rfl⟩)
        go_roundw
        case rel => exact ⟨k + 1, by omega, by go_num, upto_succ9 hs1 hok.it, sk9⟩
        case measure => simp [intOf]; omega
    · have ik : ¬ (k : Int) < (n : Int) := by omega
      obtain rfl : n = k := by omega
      have hall : ms.all edMsOk = true := all_yes (fun j hj => hs1 j (by omega))
      replace hall := Hush9.mk hall
      clear hs1
      go_wp2
      go_ret
      exact ⟨-1, rfl, by rw [hall.it]; rfl, sk9⟩

theorem containsM_calls (ao : Option Addr) (n cap : Nat) (hs : List MH) (ps : List (List PH)) (ms : List Ms) (w : World) (hl : Lay fMh w ao n hs) (hM : MeshesAt w hs ps ms) (hn : n ≤ 9223372036854775807) :
    Calls Tryz.prog 75 #[.slice ao n cap, .func (.func 76) #[] #[]] w fun e w' => e = .returned (.bool (!ms.all edMsOk)) ∧ ∃ y, w' = plus w y := by
  go_enter Tryz.func75, Tryz.ntmps75
  go_wp2_with (go_at_call 133; refine (indexM_calls ao n cap hs ps ms _ (hl.ex sk9) (hM.ex sk9) hn).mono ?_; rintro e w' ⟨v, rfl, hv, nx, rfl⟩; replace hv := Hush9.mk hv)
  go_ret
  exact ⟨by rw [← hv.it]; rfl, sk9⟩

theorem meshes_calls (ao : Option Addr) (n cap : Nat) (hs : List MH) (ps : List (List PH)) (ms : List Ms) (w : World) (hl : Lay fMh w ao n hs) (hM : MeshesAt w hs ps ms) (hn : n ≤ 9223372036854775807) {v : Bool} (hv : (ms.all edMsOk && decide (ms.length ≤ 32)) = v) :
    Calls Tryz.prog 29 #[.slice ao n cap] w fun e w' => e = .returned (.bool v) ∧ ∃ y, w' = plus w y := by
  have hlen := hl.len
  have mlen := hM.len
  subst hv
  by_cases h32 : 32 < n
  · have i32 : (32 : Int) < (n : Int) := by omega
    go_enter Tryz.func29, Tryz.ntmps29
    go_wp2_with fail
    go_ret
    exact ⟨by rw [decide_eq_false (show ¬ ms.length ≤ 32 by omega), Bool.and_false]; rfl, sk9⟩
  · have i32 : ¬ (32 : Int) < (n : Int) := by omega
    obtain ⟨b, hb⟩ : ∃ b, ms.all edMsOk = b := ⟨_, rfl⟩
    rw [decide_eq_true (show ms.length ≤ 32 by omega), Bool.and_true, hb]
    replace hb := Hush9.mk hb
    go_enter Tryz.func29, Tryz.ntmps29
    go_wp2_with (go_at_call 75; refine (containsM_calls ao n cap hs ps ms _ (hl.ex sk9) (hM.ex sk9) hn).mono ?_; rintro e w' ⟨rfl, nx, rfl⟩; rw [hb.it])
    go_ret
    exact ⟨by cases b <;> rfl, sk9⟩

set_option maxRecDepth 100000 in
set_option maxHeartbeats 4000000 in
theorem nodes_calls (h : SH) (x : SX) (s : Sc) (w : World) (hA : ScAt w h x s) (hok : grOk s.g = true) {v : Bool} (hv : (decide (s.ns.length = s.g.ks.length) && nodesOk s) = v) : Calls Tryz.prog 28 #[vS h] w fun e w' => e = .returned (.bool v) ∧ ∃ y, w' = plus w y := by
  have hS := hA.small
  have hG := hA.g
  have hR := hA.r
  have lmn := hA.mn.1
  have ltn := hA.tn.1
  clear hA
  obtain ⟨ga, gn, gc, ka, kn, kc, na, nn, nc, ma, mn, mc, ta, tn, tc, r0, r1⟩ := h
  have nl := hR.nl
  have ns := hR.ns
  have ml := hR.ml
  have ms := hR.ms
  have tl := hR.tl
  have ts := hR.ts
  have n3 := hR.n3
  have n1 := hR.n1
  have n2 := hR.n2
  have hr := hR.root
  simp only at nl ml ms tl ts n1 n2 n3 hr hG
  clear hR
  have nlen := nl.len
  have nlen2 := ns.len
  have mlen := ml.len
  have mlen2 := ms.len
  unfold vS
  simp only at lmn ltn ⊢
  obtain ⟨_, gok, _, _⟩ := gr_parts hok
  have gl := hG.kl
  have gs := hG.sl
  have gsl := gs.len
  have gk := hG.kh
  have gkl := gk.len
  obtain rfl : gn = kn := by omega
  by_cases hnk : nn = gn
  rotate_left
  · have dne : ((nn : Int) == (gn : Int)) = false := by rw [beq_eq_false_iff_ne]; omega
    rw [decide_eq_false (show ¬ s.ns.length = s.g.ks.length by omega), Bool.false_and] at hv
    subst hv
    go_enter Tryz.func28, Tryz.ntmps28
    go_wp2_with fail
    go_ret
    exact ⟨rfl, sk9⟩
  obtain rfl := hnk
  rw [decide_eq_true (show s.ns.length = s.g.ks.length by omega), Bool.true_and] at hv
  replace hv := Hush9.mk hv
  obtain ⟨b, hb⟩ : ∃ b, w.heap.size = b := ⟨_, rfl⟩
  go_enter Tryz.func28, Tryz.ntmps28
  go_upto_region 1 with fail
  refine name_w (fun w' => (∃ y, w' = plus w y) ∧ w'.heap[b]? = some (.cells #[.slice ga nn gc, .slice ka nn kc, .slice na nn nc, .slice ma mn mc, .slice ta tn tc, .int .i64 r0, .int .i64 r1] 34)) ⟨sk9, hb ▸ blk_new2 _ _⟩ ?_
  try simp only [hb]
  rintro w1 ⟨x1, k0⟩
  have c0 := cell_blk (i := 0) k0 rfl
  have c1 := cell_blk (i := 1) k0 rfl
  have c2 := cell_blk (i := 2) k0 rfl
  have c3 := cell_blk (i := 3) k0 rfl
  have c4 := cell_blk (i := 4) k0 rfl
  have c5 := cell_blk (i := 5) k0 rfl
  have c6 := cell_blk (i := 6) k0 rfl
  go_wp2
  go_loopw [17] (fun i wr => ∃ k : Nat, k ≤ nn ∧ i = .int .i64 k ∧ (∀ j, j < k → nodeOk s j = true) ∧ ∃ y, wr = plus w1 y) (fun i _ => nn - (intOf i).toNat)
  case atStart => exact ⟨0, Nat.zero_le _, rfl, fun j hj => by omega, sk9⟩
  case round =>
    obtain ⟨k, hk, rfl, hs1, hx⟩ := hrel
    by_cases hkl : k < nn
    · obtain ⟨g, off, rfl, hgl, hcell⟩ := nl.some (by omega)
      obtain ⟨g', off', rfl, hgl', hcell'⟩ := gs.some (by omega)
      obtain ⟨g'', off'', rfl, hgl'', hcell''⟩ := gk.some (by omega)
      have ik : (k : Int) < (nn : Int) := by omega
      have hp := Hush9.mk (lay_part (d := nh0) nlen fN_c hcell hkl)
      have kr := cell_ex (ex_trans x1 hx) (cellR gkl hcell'' hkl)
      have kv := cell_ex (ex_trans x1 hx) (cellS gsl hcell' (k := k) (by omega)).2
      have a1 := (ns.one k (by omega)).ex (ex_trans x1 hx)
      have s1 := hS.n k (by omega)
      have hrl : (nth [] s.g.ks k).length = (nth dRH x.gr k).n := (hG.row k (by omega)).len
      obtain ⟨bk, hbk⟩ : ∃ v, nodeOk s k = v := ⟨_, rfl⟩
      have hfit : (if (nth dSl s.g.sl k).live then mayNd mn tn (nth nd0 s.ns k) && (!decide ((nth nd0 s.ns k).f.kind = 5) || decide ((nth dRH x.gr k).n = 0)) else sameNd (nth nd0 s.ns k) nd0) = bk := by
        rw [← hbk, fits_node, fits, lmn, ltn, hrl]
      replace hfit := Hush9.mk hfit
      replace hbk := Hush9.mk hbk
      have cb0 := cell_ex hx c0
      have cb1 := cell_ex hx c1
      have cb2 := cell_ex hx c2
      have cb3 := cell_ex hx c3
      have cb4 := cell_ex hx c4
      have cb5 := cell_ex hx c5
      have cb6 := cell_ex hx c6
      have kb := blk_ex hx k0
      have lkb := blk_lt kb
      clear c0 c1 c2 c3 c4 c5 c6 hcell hcell' hcell''
      obtain ⟨q, hq⟩ : ∃ q, wr.heap.size = q := ⟨_, rfl⟩
      go_upto_region 6 with (first | (refine wpList_load_part rfl 56 _ rfl g (off + k * 33) rfl (fN (nth nh0 x.nh k)) _ (fun j v hj => cell_ex (ex_trans (ex_trans x1 hx) sk9) (hp.it j v hj)) Tryz.underlying56 rfl (by kernel_rfl) ?_; simp only [Act.put, List.setIfInBounds_toArray, List.set_cons_succ, List.set_cons_zero]) | (refine wpList_store_box rfl 56 _ _ rfl q (fN (nth nh0 x.nh k)) (by simp [go_sem, hq]) rfl _ _ (by rw [← hq]; exact blk_new2 _ _) (by kernel_rfl) (by kernel_rfl) (fN_1 _) ?_))
      refine name_w (fun w' => (∃ y, w' = plus wr y) ∧ w'.heap[q]? = some (.cells (fN (nth nh0 x.nh k)).toArray 56)) ⟨ex_row_new sk9 (by omega), blk_row_eq (by rw [← hq]; exact blk_new2 _ _)⟩ ?_
      try simp only [hq]
      rintro w2 ⟨x2, kq⟩
      have lq := blk_lt kq
      have db0 := cell_ex x2 cb0
      have db1 := cell_ex x2 cb1
      have db2 := cell_ex x2 cb2
      have db3 := cell_ex x2 cb3
      have db4 := cell_ex x2 cb4
      have db5 := cell_ex x2 cb5
      have db6 := cell_ex x2 cb6
      clear cb0 cb1 cb2 cb3 cb4 cb5 cb6 kb
      cases bk
      · go_wp2_with (first | (refine wpList_load_row rfl 56 _ rfl q rfl _ _ _ _ kq Tryz.underlying56 rfl (by kernel_rfl) ?_) | (go_at_call 74; refine (fits_calls _ _ _ _ _ _ _ _ _ _ _ _ _ _ _ _ _ _ _ k (nth nh0 x.nh k) (nth nd0 s.ns k) _ _ _ _ _ (a1.ex (ex_trans x2 sk9)) s1 (cell_ex (ex_trans x2 sk9) kv) (cell_ex (ex_trans x2 sk9) kr) (by omega) (by omega) hfit.it).mono ?_; rintro e w' ⟨rfl, nx, rfl⟩))
        go_ret
        have hno : nodesOk s = false := by
          cases h2 : nodesOk s
          · rfl
          · simp only [nodesOk, List.all_eq_true, List.mem_range] at h2
            rw [h2 k (by omega)] at hbk
            cases hbk.it
        exact ⟨by rw [← hv.it, hno]; rfl, ex_trans (ex_trans (ex_trans x1 hx) x2) sk9⟩
      · go_wp2_with (first | (refine wpList_load_row rfl 56 _ rfl q rfl _ _ _ _ kq Tryz.underlying56 rfl (by kernel_rfl) ?_) | (go_at_call 74; refine (fits_calls _ _ _ _ _ _ _ _ _ _ _ _ _ _ _ _ _ _ _ k (nth nh0 x.nh k) (nth nd0 s.ns k) _ _ _ _ _ (a1.ex (ex_trans x2 sk9)) s1 (cell_ex (ex_trans x2 sk9) kv) (cell_ex (ex_trans x2 sk9) kr) (by omega) (by omega) hfit.it).mono ?_; rintro e w' ⟨rfl, nx, rfl⟩))
        go_roundw
        case rel => exact ⟨k + 1, by omega, by go_num, upto_succ9 hs1 hbk.it, ex_trans (ex_trans hx x2) sk9⟩
        case measure => simp [intOf]; omega
    · have ik : ¬ (k : Int) < (nn : Int) := by omega
      obtain rfl : nn = k := by omega
      have hall : nodesOk s = true := by
        simp only [nodesOk, List.all_eq_true, List.mem_range]
        exact fun j hj => hs1 j (by omega)
      replace hall := Hush9.mk hall
      clear hs1
      go_wp2
      go_ret
      exact ⟨by rw [← hv.it, hall.it]; rfl, ex_trans (ex_trans x1 hx) sk9⟩

end

section


open Go.RowKit Go.ChangeShapes Go.WideShapes Go.ChangeAt

set_option linter.unusedSimpArgs false

set_option linter.unusedVariables false

attribute [local go_sem] plus_size plus_drew dn_set dn_alloc dn_plus plus_dn cell_plus frozen_plus set_plus cell_alloc frozen_alloc set_alloc

theorem checksT_is {x : SX} {s : Sc} {w : World} (hT : TexsAt w x.th s.ts) : checksT x.th = if 16 < s.ts.length then 4 else if s.ts.all mayTp then 0 else 8 := by
  have hl := hT.len
  unfold checksT
  rw [hl]
  split
  · rfl
  have : x.th.all mayH = s.ts.all mayTp := by
    rw [Bool.eq_iff_iff, List.all_eq_true, List.all_eq_true]
    constructor
    · intro h t ht
      obtain ⟨k, hk, rfl⟩ := List.getElem_of_mem ht
      have h1 := h _ (nth_mem (d := th0) (k := k) (by omega))
      have h2 := texMay (hT.one k (by omega))
      rw [mayH, h2, nth_eq hk] at h1
      exact h1
    · intro h t ht
      obtain ⟨k, hk, rfl⟩ := List.getElem_of_mem ht
      have h1 := h _ (nth_mem (d := tp0) (k := k) (by omega))
      have h2 := texMay (hT.one k hk)
      rw [← h2, nth_eq hk] at h1
      exact h1
  rw [this]

theorem nodes_is {ga ka na ma ta : Option Addr} {gn gc kn kc nn nc mn mc tn tc : Nat} {r0 r1 : Int} {x : SX} {s : Sc} {w : World} (hA : ScAt w ⟨ga, gn, gc, ka, kn, kc, na, nn, nc, ma, mn, mc, ta, tn, tc, r0, r1⟩ x s) (hok : grOk s.g = true) {v : Bool} (hv : (decide (s.ns.length = s.g.ks.length) && nodesOk s) = v) : Calls Tryz.prog 28 #[.agg #[.slice ga gn gc, .slice ka kn kc, .slice na nn nc, .slice ma mn mc, .slice ta tn tc, .int .i64 r0, .int .i64 r1]] w fun e w' => e = .returned (.bool v) ∧ ∃ y, w' = plus w y := nodes_calls ⟨ga, gn, gc, ka, kn, kc, na, nn, nc, ma, mn, mc, ta, tn, tc, r0, r1⟩ x s w hA hok hv

set_option maxHeartbeats 4000000 in
theorem lcheck10_calls (h : SH) (x : SX) (s : Sc) (w : World) (hA : ScAt w h x s) : Calls Tryz.prog 12 #[vS h] w fun e w' => e = .returned (.int .i64 (scErr s)) ∧ ∃ y, w' = plus w y := by
  have hG := hA.g
  have hR := hA.r
  have hroot := hR.root
  have ml := hR.ml
  have ms := hR.ms
  have tl := hR.tl
  have ts := hR.ts
  have n2 := hR.n2
  have n3 := hR.n3
  have hcx := checksT_is hR.ts
  obtain ⟨ga, gn, gc, ka, kn, kc, na, nn, nc, ma, mn, mc, ta, tn, tc, r0, r1⟩ := h
  unfold vS
  simp only at hG ml tl n2 n3 hroot ⊢
  have gs := hG.sl
  have g1 := hG.n1
  obtain ⟨b1, hb1⟩ : ∃ b, grOk s.g = b := ⟨_, rfl⟩
  obtain ⟨b2, hb2⟩ : ∃ b, (decide (s.ns.length = s.g.ks.length) && nodesOk s) = b := ⟨_, rfl⟩
  obtain ⟨b3, hb3⟩ : ∃ b, (s.ms.all edMsOk && decide (s.ms.length ≤ 32)) = b := ⟨_, rfl⟩
  obtain ⟨b4, hb4⟩ : ∃ b, (s.ts.all mayTp && decide (s.ts.length ≤ 16)) = b := ⟨_, rfl⟩
  obtain ⟨b5, hb5⟩ : ∃ b, (decide ((r0, r1) = ((0, 0) : Int × Int)) || heldIn s.g.sl r0 r1) = b := ⟨_, rfl⟩
  obtain ⟨cx, hcx2⟩ : ∃ c, checksT x.th = c := ⟨_, rfl⟩
  have hc4 : (cx = 0) = (b4 = true) := by
    rw [← hcx2, hcx, ← hb4]
    by_cases e1 : 16 < s.ts.length <;> cases e2 : s.ts.all mayTp <;> simp [e1] <;> omega
  have hc48 : b4 = false → cx = 4 ∨ cx = 8 := by
    intro e
    rw [← hcx2, hcx]
    rw [← hb4] at e
    by_cases e1 : 16 < s.ts.length
    · rw [if_pos e1]; exact .inl rfl
    · rw [if_neg e1]
      rw [decide_eq_true (show s.ts.length ≤ 16 by omega), Bool.and_true] at e
      rw [e]; exact .inr rfl
  have hres : scErr s = if b1 && (b2 && (b3 && (b4 && b5))) then 0 else 8 := by
    unfold scErr
    congr 2
    unfold maySc storesOk rootOk
    rw [hroot, hb1, ← hb2, ← hb3, ← hb4, ← hb5]
    generalize decide (s.ns.length = s.g.ks.length) = q1
    generalize s.ms.all edMsOk = q2
    generalize s.ts.all mayTp = q3
    generalize decide (s.ms.length ≤ 32) = q4
    generalize decide (s.ts.length ≤ 16) = q5
    generalize nodesOk s = q6
    cases b1 <;> cases q1 <;> cases q2 <;> cases q3 <;> cases q4 <;> cases q5 <;> cases q6 <;> rfl
  rw [hres]
  clear hres hcx
  replace hb2 := Hush9.mk hb2
  replace hb3 := Hush9.mk hb3
  replace hb5 := Hush9.mk hb5
  replace hcx2 := Hush9.mk hcx2
  have hgo : b1 = true → arOk s.g.sl = true := fun e => (gr_parts (hb1.trans e)).1
  have hgp : b1 = true → grOk s.g = true := fun e => hb1.trans e
  have her : grErr s.g = if b1 then 0 else 8 := by rw [grErr, hb1]
  replace her := Hush9.mk her
  clear hb1
  cases b1
  · go_enter Tryz.func12, Tryz.ntmps12
    go_wp2_with (first | (go_at_call 27; refine (plus_post (her.it ▸ ncheck_calls _ _ _ _ _ _ x.gr s.g _ (hG.ex sk9))).mono ?_; rintro e w' ⟨rfl, nx, rfl⟩) | (go_at_call 28; refine (nodes_is (hA.ex sk9) hgg.it hb2.it).mono ?_; rintro e w' ⟨rfl, nx, rfl⟩) | (go_at_call 29; refine (meshes_calls _ _ _ x.mh x.ph s.ms _ (ml.ex sk9) (ms.ex sk9) n2 hb3.it).mono ?_; rintro e w' ⟨rfl, nx, rfl⟩) | (go_at_call 30; refine (tchecks_is hcx2.it (tl.ex sk9) n3).mono ?_; rintro e w' ⟨rfl, nx, rfl⟩) | (go_at_call 31; refine (lroot_calls _ _ _ _ _ _ _ _ _ _ _ _ _ _ _ _ _ _ _ s.g.sl _ (gs.ex sk9) g1 hga.it hb5.it).mono ?_; rintro e w' ⟨rfl, nx, rfl⟩))
    go_ret
    exact ⟨rfl, sk9⟩
  have hga := Hush9.mk (hgo rfl)
  have hgg := Hush9.mk (hgp rfl)
  clear hgo hgp
  cases b2
  · go_enter Tryz.func12, Tryz.ntmps12
    go_wp2_with (first | (go_at_call 27; refine (plus_post (her.it ▸ ncheck_calls _ _ _ _ _ _ x.gr s.g _ (hG.ex sk9))).mono ?_; rintro e w' ⟨rfl, nx, rfl⟩) | (go_at_call 28; refine (nodes_is (hA.ex sk9) hgg.it hb2.it).mono ?_; rintro e w' ⟨rfl, nx, rfl⟩) | (go_at_call 29; refine (meshes_calls _ _ _ x.mh x.ph s.ms _ (ml.ex sk9) (ms.ex sk9) n2 hb3.it).mono ?_; rintro e w' ⟨rfl, nx, rfl⟩) | (go_at_call 30; refine (tchecks_is hcx2.it (tl.ex sk9) n3).mono ?_; rintro e w' ⟨rfl, nx, rfl⟩) | (go_at_call 31; refine (lroot_calls _ _ _ _ _ _ _ _ _ _ _ _ _ _ _ _ _ _ _ s.g.sl _ (gs.ex sk9) g1 hga.it hb5.it).mono ?_; rintro e w' ⟨rfl, nx, rfl⟩))
    go_ret
    exact ⟨rfl, sk9⟩
  cases b3
  · go_enter Tryz.func12, Tryz.ntmps12
    go_wp2_with (first | (go_at_call 27; refine (plus_post (her.it ▸ ncheck_calls _ _ _ _ _ _ x.gr s.g _ (hG.ex sk9))).mono ?_; rintro e w' ⟨rfl, nx, rfl⟩) | (go_at_call 28; refine (nodes_is (hA.ex sk9) hgg.it hb2.it).mono ?_; rintro e w' ⟨rfl, nx, rfl⟩) | (go_at_call 29; refine (meshes_calls _ _ _ x.mh x.ph s.ms _ (ml.ex sk9) (ms.ex sk9) n2 hb3.it).mono ?_; rintro e w' ⟨rfl, nx, rfl⟩) | (go_at_call 30; refine (tchecks_is hcx2.it (tl.ex sk9) n3).mono ?_; rintro e w' ⟨rfl, nx, rfl⟩) | (go_at_call 31; refine (lroot_calls _ _ _ _ _ _ _ _ _ _ _ _ _ _ _ _ _ _ _ s.g.sl _ (gs.ex sk9) g1 hga.it hb5.it).mono ?_; rintro e w' ⟨rfl, nx, rfl⟩))
    go_ret
    exact ⟨rfl, sk9⟩
  cases b4
  · have h48 := hc48 rfl
    clear hc4 hc48
    rcases h48 with rfl | rfl
    · go_enter Tryz.func12, Tryz.ntmps12
      go_wp2_with (first | (go_at_call 27; refine (plus_post (her.it ▸ ncheck_calls _ _ _ _ _ _ x.gr s.g _ (hG.ex sk9))).mono ?_; rintro e w' ⟨rfl, nx, rfl⟩) | (go_at_call 28; refine (nodes_is (hA.ex sk9) hgg.it hb2.it).mono ?_; rintro e w' ⟨rfl, nx, rfl⟩) | (go_at_call 29; refine (meshes_calls _ _ _ x.mh x.ph s.ms _ (ml.ex sk9) (ms.ex sk9) n2 hb3.it).mono ?_; rintro e w' ⟨rfl, nx, rfl⟩) | (go_at_call 30; refine (tchecks_is hcx2.it (tl.ex sk9) n3).mono ?_; rintro e w' ⟨rfl, nx, rfl⟩) | (go_at_call 31; refine (lroot_calls _ _ _ _ _ _ _ _ _ _ _ _ _ _ _ _ _ _ _ s.g.sl _ (gs.ex sk9) g1 hga.it hb5.it).mono ?_; rintro e w' ⟨rfl, nx, rfl⟩))
      go_ret
      exact ⟨rfl, sk9⟩
    · go_enter Tryz.func12, Tryz.ntmps12
      go_wp2_with (first | (go_at_call 27; refine (plus_post (her.it ▸ ncheck_calls _ _ _ _ _ _ x.gr s.g _ (hG.ex sk9))).mono ?_; rintro e w' ⟨rfl, nx, rfl⟩) | (go_at_call 28; refine (nodes_is (hA.ex sk9) hgg.it hb2.it).mono ?_; rintro e w' ⟨rfl, nx, rfl⟩) | (go_at_call 29; refine (meshes_calls _ _ _ x.mh x.ph s.ms _ (ml.ex sk9) (ms.ex sk9) n2 hb3.it).mono ?_; rintro e w' ⟨rfl, nx, rfl⟩) | (go_at_call 30; refine (tchecks_is hcx2.it (tl.ex sk9) n3).mono ?_; rintro e w' ⟨rfl, nx, rfl⟩) | (go_at_call 31; refine (lroot_calls _ _ _ _ _ _ _ _ _ _ _ _ _ _ _ _ _ _ _ s.g.sl _ (gs.ex sk9) g1 hga.it hb5.it).mono ?_; rintro e w' ⟨rfl, nx, rfl⟩))
      go_ret
      exact ⟨rfl, sk9⟩
  obtain rfl : cx = 0 := by rw [hc4]
  clear hc4 hc48
  cases b5
  · go_enter Tryz.func12, Tryz.ntmps12
    go_wp2_with (first | (go_at_call 27; refine (plus_post (her.it ▸ ncheck_calls _ _ _ _ _ _ x.gr s.g _ (hG.ex sk9))).mono ?_; rintro e w' ⟨rfl, nx, rfl⟩) | (go_at_call 28; refine (nodes_is (hA.ex sk9) hgg.it hb2.it).mono ?_; rintro e w' ⟨rfl, nx, rfl⟩) | (go_at_call 29; refine (meshes_calls _ _ _ x.mh x.ph s.ms _ (ml.ex sk9) (ms.ex sk9) n2 hb3.it).mono ?_; rintro e w' ⟨rfl, nx, rfl⟩) | (go_at_call 30; refine (tchecks_is hcx2.it (tl.ex sk9) n3).mono ?_; rintro e w' ⟨rfl, nx, rfl⟩) | (go_at_call 31; refine (lroot_calls _ _ _ _ _ _ _ _ _ _ _ _ _ _ _ _ _ _ _ s.g.sl _ (gs.ex sk9) g1 hga.it hb5.it).mono ?_; rintro e w' ⟨rfl, nx, rfl⟩))
    go_ret
    exact ⟨rfl, sk9⟩
  · go_enter Tryz.func12, Tryz.ntmps12
    go_wp2_with (first | (go_at_call 27; refine (plus_post (her.it ▸ ncheck_calls _ _ _ _ _ _ x.gr s.g _ (hG.ex sk9))).mono ?_; rintro e w' ⟨rfl, nx, rfl⟩) | (go_at_call 28; refine (nodes_is (hA.ex sk9) hgg.it hb2.it).mono ?_; rintro e w' ⟨rfl, nx, rfl⟩) | (go_at_call 29; refine (meshes_calls _ _ _ x.mh x.ph s.ms _ (ml.ex sk9) (ms.ex sk9) n2 hb3.it).mono ?_; rintro e w' ⟨rfl, nx, rfl⟩) | (go_at_call 30; refine (tchecks_is hcx2.it (tl.ex sk9) n3).mono ?_; rintro e w' ⟨rfl, nx, rfl⟩) | (go_at_call 31; refine (lroot_calls _ _ _ _ _ _ _ _ _ _ _ _ _ _ _ _ _ _ _ s.g.sl _ (gs.ex sk9) g1 hga.it hb5.it).mono ?_; rintro e w' ⟨rfl, nx, rfl⟩))
    go_ret
    exact ⟨rfl, sk9⟩

end

section


open Go.RowKit Go.ChangeShapes Go.WideShapes Go.ChangeAt

set_option linter.unusedSimpArgs false

set_option linter.unusedVariables false

attribute [local go_sem] plus_size plus_drew dn_set dn_alloc dn_plus plus_dn cell_plus frozen_plus set_plus cell_alloc frozen_alloc set_alloc

end

section


open Go.RowKit

def scTypes : List TypeId := [86, 88, 32, 56, 3, 61, 43, 137, 131, 64, 50]

section

variable {T w : World} {g : Nat} {cur cs : Array Value} {e' : TypeId}

theorem GrOwn.row_out {ao ko : Option Addr} {n cap kn kcap : Nat} {hs : List RH} {gr : Gr} (h : GrOwn T w ao n cap ko kn kcap hs gr) (hg : g < T.heap.size) : GrOwn T (w.setRow g cs) ao n cap ko kn kcap hs gr :=
  ⟨h.sl.row_out hg, h.kh.row_out hg, h.len, fun k hk => (h.row k hk).row_out hg⟩

theorem GrOwn.row_other {ao ko : Option Addr} {n cap kn kcap : Nat} {hs : List RH} {gr : Gr} (h : GrOwn T w ao n cap ko kn kcap hs gr) (hb : w.heap[g]? = some (.cells cur e')) (h1 : e' ≠ 86) (h2 : e' ≠ 88) (h3 : e' ≠ 32) : GrOwn T (w.setRow g cs) ao n cap ko kn kcap hs gr :=
  ⟨h.sl.row_other hb h1, h.kh.row_other hb h2, h.len, fun k hk => (h.row k hk).row_other hb h3⟩

theorem NodeOwn.row_out {h : NH} {n : Nd} (a : NodeOwn T w h n) (hg : g < T.heap.size) : NodeOwn T (w.setRow g cs) h n := ⟨a.f, a.b, a.far.row_out hg⟩

theorem MeshOwn.row_out {h : MH} {hs : List PH} {m : Ms} (a : MeshOwn T w h hs m) (hg : g < T.heap.size) : MeshOwn T (w.setRow g cs) h hs m :=
  ⟨⟨a.t.v.row_out hg, a.t.u.row_out hg, a.t.p.row_out hg, a.t.len, a.t.kind, fun k hk => (a.t.ix k hk).row_out hg⟩, a.b⟩

theorem TexOwn.row_out {h : TH} {t : Tp} (a : TexOwn T w h t) (hg : g < T.heap.size) : TexOwn T (w.setRow g cs) h t := ⟨a.we, a.he, a.tx.row_out hg, a.ok⟩

variable {h : SH} {x : SX} {s : Sc}

theorem ScOwn.row_out (a : ScOwn T w h x s) (hg : g < T.heap.size) : ScOwn T (w.setRow g cs) h x s :=
  ⟨a.g.row_out hg, a.nl.row_out hg, a.nlen, fun k hk => (a.ns k hk).row_out hg, a.ml.row_out hg, a.mlen, fun k hk => (a.ms k hk).row_out hg, a.tl.row_out hg, a.tlen, fun k hk => (a.ts k hk).row_out hg, a.root, a.pl⟩

theorem ScOwn.row_other (a : ScOwn T w h x s) (hb : w.heap[g]? = some (.cells cur e')) (he : e' ∉ scTypes) : ScOwn T (w.setRow g cs) h x s := by
  simp only [scTypes, List.mem_cons, List.not_mem_nil, or_false, not_or] at he
  obtain ⟨e1, e2, e3, e4, e5, e6, e7, e8, e9, e10, e11⟩ := he
  exact ⟨a.g.row_other hb e1 e2 e3, a.nl.row_other hb e4, a.nlen, fun k hk => (a.ns k hk).row_other hb e5, a.ml.row_other hb e6, a.mlen, fun k hk => (a.ms k hk).row_other hb e7 e8 e9 e5, a.tl.row_other hb e10, a.tlen, fun k hk => (a.ts k hk).row_other hb e11, a.root, a.pl⟩

theorem setCell_row (w : World) {i : Nat} {u : Value} (hb : w.heap[g]? = some (.cells cur e')) : w.setCell ⟨g, i, none⟩ u = w.setRow g (cur.setIfInBounds i u) := setCell_eq_setRow w g i cur e' (0, 0) u hb

theorem ScOwn.set_other (a : ScOwn T w h x s) {i : Nat} {u : Value} (hb : w.heap[g]? = some (.cells cur e')) (he : e' ∉ scTypes) : ScOwn T (w.setCell ⟨g, i, none⟩ u) h x s := by
  rw [setCell_row w hb]
  exact a.row_other hb he

end

def scCells (h : SH) : List Value := [.slice h.ga h.gn h.gc, .slice h.ka h.kn h.kc, .slice h.na h.nn h.nc, .slice h.ma h.mn h.mc, .slice h.ta h.tn h.tc, .int .i64 h.r0, .int .i64 h.r1]

theorem scCells_1 (h : SH) : ∀ u ∈ scCells h, u.oneCell' = true := by
  intro u hu
  simp only [scCells, List.mem_cons, List.not_mem_nil, or_false] at hu
  rcases hu with rfl | rfl | rfl | rfl | rfl | rfl | rfl <;> rfl

def RetSc (w : World) (s : Sc) (e : Ending) (w' : World) : Prop := ∃ h' x', e = .returned (vS h') ∧ (∃ y, w' = plus w y) ∧ ScOwn w w' h' x' s

end

section


open Go.RowKit

theorem made_rep {α : Type} {f : α → List Value} {d : α} {c : Nat} (hc : ∀ x, (f x).length = c) (h0 : 0 < c) (n : Nat) : madeCells (f d).toArray (n * c) = ((List.replicate n d).flatMap f).toArray := by
  apply Array.ext'
  rw [List.toList_toArray]
  apply List.ext_getElem?
  intro k
  by_cases hk : k < n * c
  · have hq : k / c < n := (Nat.div_lt_iff_lt_mul h0).2 hk
    have hr : k % c < c := Nat.mod_lt _ h0
    have h1 := flat_at hc (List.replicate n d) (k / c) (by simpa using hq) (k % c) hr
    rw [show k / c * c + k % c = k by rw [Nat.mul_comm]; exact Nat.div_add_mod k c] at h1
    rw [h1]
    have hd := hc d
    simp only [madeCells, Array.toList_map, Array.toList_range, List.getElem?_map, List.getElem_replicate, List.size_toArray, hd]
    rw [List.getElem?_range hk]
    simp only [Option.map_some]
    rw [getElem!_pos _ _ (by simp [hd]; exact hr), List.getElem?_eq_getElem (by omega)]
    simp
  · rw [List.getElem?_eq_none (by rw [Array.length_toList, size_madeCells]; omega), List.getElem?_eq_none (by rw [flat_length hc]; simp; omega)]

theorem run_make_zero {P : Program} {α : Type} {f : α → List Value} {d : α} {t e : TypeId} {c b : Nat} {z : Value} (hi : (P.info? e).map (fun i => (i.zero, i.size, i.bytes)) = some (some z, c, b)) (hz : z.cells = (f d).toArray) (hu : P.underlying t = some (.slice e)) (hc : ∀ x, (f x).length = c) (h0 : 0 < c) (hb : b ≤ 100000) (n : Nat) (hn : n ≤ 100000) (w : World) :
    (Instr.makeSlice t (.int .i64 n) (.int .i64 n)).run P w = .ok (.slice (some ⟨w.heap.size, 0, none⟩) n n) (w.alloc (.cells ((List.replicate n d).flatMap f).toArray e)) := by
  cases hq : P.info? e with
  | none => simp [hq] at hi
  | some i =>
    simp only [hq, Option.map_some, Option.some.injEq, Prod.mk.injEq] at hi
    obtain ⟨h1, h2, h3⟩ := hi
    have hb1 : i.bytes * n ≤ 281474976710656 := by rw [h3]; exact Nat.le_trans (Nat.mul_le_mul hb hn) (by decide)
    have h := run_make w t e i z hu hq h1 .i64 .i64 n n (by omega) (Int.le_refl _) (by rw [← Int.natCast_mul]; omega) (by omega)
    rw [Int.toNat_natCast, h2, hz, made_rep hc h0 n] at h
    rw [h]

end

section


open Go.RowKit Go.ChangeShapes Go.WideShapes Go.ChangeAt

set_option linter.unusedSimpArgs false

set_option linter.unusedVariables false

attribute [local go_sem] plus_size plus_drew dn_set dn_alloc dn_plus plus_dn cell_plus frozen_plus set_plus cell_alloc frozen_alloc set_alloc

set_option maxRecDepth 100000 in
set_option maxHeartbeats 2000000 in
theorem twinNode_calls (h : NH) (n : Nd) (w : World) (hN : NodeAt w h n) (s1 : h.n ≤ 10000) : Calls Tryz.prog 41 #[vN h] w fun e w' => RetNd w n e w' := by
  show Calls Tryz.prog 41 #[.agg (fN h).toArray] w fun e w' => RetNd w n e w'
  obtain ⟨cs, hcs⟩ : ∃ cs, fN h = cs := ⟨_, rfl⟩
  have hc : cs.length = 33 := by rw [← hcs]; rfl
  have h1 : ∀ v ∈ cs, v.oneCell' = true := by rw [← hcs]; exact fN_1 h
  have hfar : cs[17]? = some (.slice h.ao h.n h.cap) := by rw [← hcs]; exact far_at h
  have hnil : h.ao = none → h.cap = 0 := fun e => (hN.nil e).2
  obtain ⟨b, hb⟩ : ∃ b, w.heap.size = b := ⟨_, rfl⟩
  rw [hcs]
  go_enter Tryz.func41, Tryz.ntmps41
  go_upto_region 1 with fail
  refine name_w (fun w' => (∃ y, w' = plus w y) ∧ w'.heap[b]? = some (.cells cs.toArray 56) ∧ (∃ z : List Value, w'.heap[b + 1]? = some (.cells z.toArray 56) ∧ z.length = 33) ∧ w'.heap.size = b + 2) ⟨sk9, hb ▸ blk_old (blk_new2 _ _), ⟨_, by rw [← hb, ← size_alloc w]; exact blk_new2 _ _, rfl⟩, by rw [size_alloc, size_alloc, hb]⟩ ?_
  try simp only [hb]
  rintro w1 ⟨x1, k1, ⟨z, k2, hz⟩, z1⟩
  have p17 : w1.cell? ⟨b, 17, none⟩ = some (.slice h.ao h.n h.cap) := cell_of k1 hfar
  have hl1 := hN.lay.ex x1
  go_upto_region 2 with (go_at_call 83; refine (cloneI _ _ _ n.far _ hl1 s1 hnil).mono ?_; rintro e w2 ⟨a1, m1, c1, rfl, hw2, o1⟩; have q17 := cell_ex hw2 p17; have f17 : w2.frozen? ⟨b, 17, none⟩ = false := frozen_blk (blk_ex hw2 k1))
  refine name_w (fun w' => (∃ y, w' = plus w y) ∧ w'.heap[b]? = some (.cells (fN (farAs h a1 m1 c1)).toArray 56) ∧ w'.heap[b + 1]? = some (.cells z.toArray 56) ∧ Own 3 1 fI w w' a1 m1 c1 n.far) ⟨ex_set_new (ex_trans x1 hw2) (by omega), by have := blk_set (i := 17) (u := .slice a1 m1 c1) (blk_ex hw2 k1); rw [← hcs, far_set] at this; exact this, blk_set_far (blk_ex hw2 k2) (by omega), (o1.set_other (blk_ex hw2 k1) (by decide)).base (by omega)⟩ ?_
  rintro w4 ⟨x4, k5, k6, o5⟩
  clear o1 p17 q17 f17 hl1
  go_wp2_with (first | (refine wpList_load_row rfl 56 _ rfl b rfl _ _ _ _ k5 Tryz.underlying56 rfl (by kernel_rfl) ?_) | (refine wpList_store_box rfl 56 _ _ rfl (b + 1) (fN (farAs h a1 m1 c1)) rfl rfl _ _ k6 (by kernel_rfl) (by rw [fN_c]; simpa using hz) (fN_1 _) ?_))
  exact bodyPost_ret (v := vN (farAs h a1 m1 c1)) (results_cell_row Tryz.results41 _ _ (b + 1) 56 _ _ _ rfl (blk_row_eq k6) Tryz.underlying56 rfl (by kernel_rfl)) rfl ⟨_, rfl, ex_row_new x4 (by omega), ⟨hN.f, hN.b, o5.row_other k6 (by decide)⟩⟩

end

section


open Go.RowKit Go.ChangeShapes Go.WideShapes Go.ChangeAt

set_option linter.unusedSimpArgs false

set_option linter.unusedVariables false

attribute [local go_sem] plus_size plus_drew dn_set dn_alloc dn_plus plus_dn cell_plus frozen_plus set_plus cell_alloc frozen_alloc set_alloc

theorem run_make_N (n : Nat) (hn : n ≤ 100000) (w : World) : (Instr.makeSlice 28 (.int .i64 n) (.int .i64 n)).run Tryz.prog w = .ok (.slice (some ⟨w.heap.size, 0, none⟩) n n) (w.alloc (.cells ((List.replicate n nh0).flatMap fN).toArray 56)) :=
  run_make_zero (z := .agg (fN nh0).toArray) (c := 33) (b := 224) (by kernel_rfl) rfl Tryz.underlying28 fN_c (by decide) (by decide) n hn w

def RetNs (w : World) (ns : List Nd) (n : Nat) (e : Ending) (w' : World) : Prop := ∃ (ao' : Option Addr) (cap' : Nat) (hs' : List NH) , e = .returned (.slice ao' n cap') ∧ (∃ y, w' = plus w y) ∧ Own 56 33 fN w w' ao' n cap' hs' ∧ (∀ k, k < n → NodeOwn w w' (nth nh0 hs' k) (nth nd0 ns k))

set_option maxRecDepth 100000 in
set_option maxHeartbeats 4000000 in
theorem twinsN_calls (ao : Option Addr) (n cap : Nat) (hs : List NH) (ns : List Nd) (w : World) (hl : Lay fN w ao n hs) (hA : NodesAt w hs ns) (hf : ∀ k, k < ns.length → FewNd (nth nd0 ns k)) (hn : n ≤ 100000) :
    Calls Tryz.prog 40 #[.slice ao n cap, .func (.func 41) #[] #[]] w fun e w' => RetNs w ns n e w' := by
  have hlen := hl.len
  have alen := hA.len
  have hmk := run_make_N n hn
  go_enter Tryz.func40, Tryz.ntmps40
  go_wp2
  go_loopw [13] (fun i wr => ∃ (k : Nat) (hs' : List NH) , k ≤ n ∧ i = .int .i64 k ∧ (∃ y, wr = plus w y) ∧ Own 56 33 fN w wr (some ⟨w.heap.size, 0, none⟩) n n hs' ∧ (∀ j, j < k → NodeOwn w wr (nth nh0 hs' j) (nth nd0 ns j))) (fun i _ => n - (intOf i).toNat)
  case atStart => exact ⟨0, List.replicate n nh0,  Nat.zero_le _, rfl, sk9,  own_row (by simp) fN_c (by rw [blk_alloc, if_pos rfl]) (Nat.le_refl _) (Nat.le_trans hn (by decide)), fun j hj => by omega⟩
  case round =>
    obtain ⟨k, hs',  hk, rfl, hx,  ok, orow⟩ := hrel
    by_cases hkl : k < n
    · have ik : (k : Int) < (n : Int) := by omega
      obtain ⟨g1, o1, rfl, hg1, hc1⟩ := hl.some (by omega)
      have hp := lay_part (d := nh0) hlen fN_c hc1 hkl
      have aK := hA.one k (by omega)
      have fK : (nth nh0 hs k).n ≤ 10000 := by have h0 := hf k (by omega); have h2 := aK.lay.len; unfold FewNd at h0; omega
      obtain ⟨gb, cur, eb, hgb, hbb, hsz⟩ := ok.blk (by omega)
      cases eb
      have lb := blk_lt hbb
      replace orow := Hush9.mk orow
      replace ok := Hush9.mk ok
      replace hp := Hush9.mk hp
      obtain ⟨q, hq⟩ : ∃ q, wr.heap.size = q := ⟨_, rfl⟩
      clear hc1
      go_upto_region 5 with (first | (refine wpList_load_part rfl 56 _ rfl g1 (o1 + k * 33) rfl (fN (nth nh0 hs k)) _ (fun j v hj => cell_ex (ex_trans hx sk9) (hp.it j v hj)) Tryz.underlying56 rfl (by kernel_rfl) ?_; simp only [Act.put, List.setIfInBounds_toArray, List.set_cons_succ, List.set_cons_zero]) | (refine wpList_store_box rfl 56 _ _ rfl q (fN (nth nh0 hs k)) (by simp [go_sem, hq]) rfl _ _ (by rw [← hq]; exact blk_new2 _ _) (by kernel_rfl) (by kernel_rfl) (fN_1 _) ?_))
      refine name_w (fun w' => (∃ y, w' = plus wr y) ∧ w'.heap[q]? = some (.cells (fN (nth nh0 hs k)).toArray 56)) ⟨ex_row_new sk9 (by omega), blk_row_eq (by rw [← hq]; exact blk_new2 _ _)⟩ ?_
      try simp only [hq]
      rintro w2 ⟨x2, kq⟩
      have lq := blk_lt kq
      have aK := aK.ex (ex_trans hx x2)
      go_wp2_with (first | (refine wpList_load_row rfl 56 _ rfl q rfl _ _ _ _ kq Tryz.underlying56 rfl (by kernel_rfl) ?_) | (go_at_call 41; refine (twinNode_calls (nth nh0 hs k) (nth nd0 ns k) _ (aK.ex sk9) fK).mono ?_; rintro e w3 ⟨h3, rfl, hx3, o3⟩) | (refine wpList_store_part rfl 56 _ _ rfl w.heap.size (k * 33) (fN h3) (by simp [go_sem]) rfl _ cur (blk_ex (ex_trans x2 hx3) hbb) (by kernel_rfl) ((ok.it.set_row hbb hkl fN_c h3).2) (fN_1 _) ?_))
      go_roundw
      case rel =>
        refine ⟨k + 1, hs'.set k h3,  by omega, by go_num, ex_row_new (ex_trans (ex_trans hx x2) hx3) (Nat.le_refl _),  ((ok.it.ex (ex_trans x2 hx3)).set_row (blk_ex (ex_trans x2 hx3) hbb) (by omega) fN_c h3).1, fun j hj => ?_⟩
        have hsl := ok.it.1
        rw [nth_set' (by omega)]
        by_cases ej : j = k
        · subst ej
          rw [if_pos rfl ]
          exact (o3.base (by have := size_ex hx; have := size_ex x2; omega)).row_other (blk_ex (ex_trans x2 hx3) hbb) (by decide)
        · rw [if_neg ej ]
          exact ((orow.it j (by omega)).ex (ex_trans x2 hx3)).row_other (blk_ex (ex_trans x2 hx3) hbb) (by decide)
      case measure => simp [intOf]; omega
    · have ik : ¬ (k : Int) < (n : Int) := by omega
      obtain rfl : n = k := by omega
      go_wp2
      go_ret
      exact ⟨_, _, hs',  rfl, ex_trans hx sk9, ok.ex sk9,  fun j hj => (orow j hj).ex sk9⟩

end

section


open Go.RowKit Go.ChangeShapes Go.WideShapes Go.ChangeAt

set_option linter.unusedSimpArgs false

set_option linter.unusedVariables false

attribute [local go_sem] plus_size plus_drew dn_set dn_alloc dn_plus plus_dn cell_plus frozen_plus set_plus cell_alloc frozen_alloc set_alloc

theorem mtwin_at {h : MH} {hs : List PH} {m : Ms} {w : World} (a : MeshAt w h hs m) (f : FewMs m) : Calls Tryz.prog 43 #[.agg (fMh h).toArray] w fun e w' => ∃ h' ps', e = .returned (.agg (fMh h').toArray) ∧ (∃ y, w' = plus w y) ∧ MeshOwn w w' h' ps' m := by
  obtain ⟨va, vn, vc, ua, un, uc, pa, pn, pc⟩ := h
  have v := a.vl.len
  have u := a.ul.len
  have p := a.pl.len
  have q := a.pp.len
  simp only at v u p
  obtain ⟨f1, f2, f3, f4⟩ := f
  refine (twin_calls va ua pa vn vc un uc pn pc hs m w a (fun j hj => ?_) (by omega) (by omega) (by omega)).mono ?_
  · have h3 := (a.pp.one j hj).lay.len
    have h4 := f4 j (by omega)
    omega
  · rintro e w' ⟨h', ps', rfl, hw, ht, _⟩
    exact ⟨h', ps', rfl, hw, ht, fun k hk => ⟨(a.pp.one k (by omega)).lo, (a.pp.one k (by omega)).hi⟩⟩

theorem run_make_M (n : Nat) (hn : n ≤ 100000) (w : World) : (Instr.makeSlice 29 (.int .i64 n) (.int .i64 n)).run Tryz.prog w = .ok (.slice (some ⟨w.heap.size, 0, none⟩) n n) (w.alloc (.cells ((List.replicate n mh0).flatMap fMh).toArray 61)) :=
  run_make_zero (z := .agg (fMh mh0).toArray) (c := 3) (b := 72) (by kernel_rfl) rfl Tryz.underlying29 fMh_c (by decide) (by decide) n hn w

def RetMs (w : World) (ns : List Ms) (n : Nat) (e : Ending) (w' : World) : Prop := ∃ (ao' : Option Addr) (cap' : Nat) (hs' : List MH) (ps' : List (List PH)), e = .returned (.slice ao' n cap') ∧ (∃ y, w' = plus w y) ∧ Own 61 3 fMh w w' ao' n cap' hs' ∧ ps'.length = n ∧ (∀ k, k < n → MeshOwn w w' (nth mh0 hs' k) (nth [] ps' k) (nth ms0 ns k))

set_option maxRecDepth 100000 in
set_option maxHeartbeats 4000000 in
theorem twinsM_calls (ao : Option Addr) (n cap : Nat) (hs : List MH) (ps : List (List PH)) (ns : List Ms) (w : World) (hl : Lay fMh w ao n hs) (hA : MeshesAt w hs ps ns) (hf : ∀ k, k < ns.length → FewMs (nth ms0 ns k)) (hn : n ≤ 100000) :
    Calls Tryz.prog 42 #[.slice ao n cap, .func (.func 43) #[] #[]] w fun e w' => RetMs w ns n e w' := by
  have hlen := hl.len
  have alen := hA.len
  have hmk := run_make_M n hn
  go_enter Tryz.func42, Tryz.ntmps42
  go_wp2
  go_loopw [13] (fun i wr => ∃ (k : Nat) (hs' : List MH) (ps' : List (List PH)), k ≤ n ∧ i = .int .i64 k ∧ (∃ y, wr = plus w y) ∧ ps'.length = n ∧ Own 61 3 fMh w wr (some ⟨w.heap.size, 0, none⟩) n n hs' ∧ (∀ j, j < k → MeshOwn w wr (nth mh0 hs' j) (nth [] ps' j) (nth ms0 ns j))) (fun i _ => n - (intOf i).toNat)
  case atStart => exact ⟨0, List.replicate n mh0, List.replicate n [], Nat.zero_le _, rfl, sk9, by simp, own_row (by simp) fMh_c (by rw [blk_alloc, if_pos rfl]) (Nat.le_refl _) (Nat.le_trans hn (by decide)), fun j hj => by omega⟩
  case round =>
    obtain ⟨k, hs', ps', hk, rfl, hx, pl', ok, orow⟩ := hrel
    by_cases hkl : k < n
    · have ik : (k : Int) < (n : Int) := by omega
      obtain ⟨g1, o1, rfl, hg1, hc1⟩ := hl.some (by omega)
      have hp := lay_part (d := mh0) hlen fMh_c hc1 hkl
      have aK := hA.one k (by omega)
      have fK := hf k (by omega)
      obtain ⟨gb, cur, eb, hgb, hbb, hsz⟩ := ok.blk (by omega)
      cases eb
      have lb := blk_lt hbb
      replace orow := Hush9.mk orow
      replace ok := Hush9.mk ok
      replace hp := Hush9.mk hp
      obtain ⟨q, hq⟩ : ∃ q, wr.heap.size = q := ⟨_, rfl⟩
      clear hc1
      go_upto_region 5 with (first | (refine wpList_load_part rfl 61 _ rfl g1 (o1 + k * 3) rfl (fMh (nth mh0 hs k)) _ (fun j v hj => cell_ex (ex_trans hx sk9) (hp.it j v hj)) Tryz.underlying61 rfl (by kernel_rfl) ?_; simp only [Act.put, List.setIfInBounds_toArray, List.set_cons_succ, List.set_cons_zero]) | (refine wpList_store_box rfl 61 _ _ rfl q (fMh (nth mh0 hs k)) (by simp [go_sem, hq]) rfl _ _ (by rw [← hq]; exact blk_new2 _ _) (by kernel_rfl) (by kernel_rfl) (fMh_1 _) ?_))
      refine name_w (fun w' => (∃ y, w' = plus wr y) ∧ w'.heap[q]? = some (.cells (fMh (nth mh0 hs k)).toArray 61)) ⟨ex_row_new sk9 (by omega), blk_row_eq (by rw [← hq]; exact blk_new2 _ _)⟩ ?_
      try simp only [hq]
      rintro w2 ⟨x2, kq⟩
      have lq := blk_lt kq
      have aK := aK.ex (ex_trans hx x2)
      go_wp2_with (first | (refine wpList_load_row rfl 61 _ rfl q rfl _ _ _ _ kq Tryz.underlying61 rfl (by kernel_rfl) ?_) | (go_at_call 43; refine (mtwin_at (aK.ex sk9) fK).mono ?_; rintro e w3 ⟨h3, p3, rfl, hx3, o3⟩) | (refine wpList_store_part rfl 61 _ _ rfl w.heap.size (k * 3) (fMh h3) (by simp [go_sem]) rfl _ cur (blk_ex (ex_trans x2 hx3) hbb) (by kernel_rfl) ((ok.it.set_row hbb hkl fMh_c h3).2) (fMh_1 _) ?_))
      go_roundw
      case rel =>
        refine ⟨k + 1, hs'.set k h3, ps'.set k p3, by omega, by go_num, ex_row_new (ex_trans (ex_trans hx x2) hx3) (Nat.le_refl _), by rw [List.length_set]; exact pl', ((ok.it.ex (ex_trans x2 hx3)).set_row (blk_ex (ex_trans x2 hx3) hbb) (by omega) fMh_c h3).1, fun j hj => ?_⟩
        have hsl := ok.it.1
        rw [nth_set' (by omega), nth_set' (d := ([] : List PH)) (by omega)]
        by_cases ej : j = k
        · subst ej
          rw [if_pos rfl , if_pos rfl]
          exact (o3.base (by have := size_ex hx; have := size_ex x2; omega)).row_other (blk_ex (ex_trans x2 hx3) hbb) (by decide) (by decide) (by decide) (by decide)
        · rw [if_neg ej , if_neg ej]
          exact ((orow.it j (by omega)).ex (ex_trans x2 hx3)).row_other (blk_ex (ex_trans x2 hx3) hbb) (by decide) (by decide) (by decide) (by decide)
      case measure => simp [intOf]; omega
    · have ik : ¬ (k : Int) < (n : Int) := by omega
      obtain rfl : n = k := by omega
      go_wp2
      go_ret
      exact ⟨_, _, hs', ps', rfl, ex_trans hx sk9, ok.ex sk9, pl', fun j hj => (orow j hj).ex sk9⟩

end

end Go.Proofs.YtcekcihijdipoaaGreat
