/- A pack of texts: EdEqM, EdEqT, Arena6, Arena7, Arena8. -/
import Derived.Deep.DeepCutAuto
import Derived.Test.YtcekcihijdipoaaGreatPT10
import Derived.Test.YtcekcihijdipoaaGreatPT9
import Derived.Test.YtcekcihijdipoaaGreatPT4
namespace Go.Proofs.YtcekcihijdipoaaGreat

section


open Go.RowKit Go.ChangeShapes Go.WideShapes Go.ChangeAt

set_option linter.unusedSimpArgs false

set_option linter.unusedVariables false

attribute [local go_sem] plus_size plus_drew dn_set dn_alloc dn_plus plus_dn cell_plus frozen_plus set_plus cell_alloc frozen_alloc set_alloc

theorem few_at {w : World} {h : MH} {hs : List PH} {m : Ms} (a : MeshAt w h hs m) (f : FewMs m) : FewM hs ∧ h.vn ≤ 1000 ∧ h.un ≤ 1000 ∧ h.pn ≤ 100 := by
  have v := a.vl.len
  have u := a.ul.len
  have p := a.pl.len
  have q := a.pp.len
  obtain ⟨f1, f2, f3, f4⟩ := f
  refine ⟨fun j hj => ?_, by omega, by omega, by omega⟩
  have h3 := (a.pp.one j hj).lay.len
  have h4 := f4 j (by omega)
  omega

theorem msame_at {w : World} {h h2 : MH} {hs gs : List PH} {m o : Ms} {b : Bool} (hb : sameMs m o = b) (hm : MeshAt w h hs m) (hm2 : MeshAt w h2 gs o) (s1 : FewMs m) (s2 : FewMs o) :
    Calls Tryz.prog 58 #[.agg (fMh h).toArray, .agg (fMh h2).toArray] w fun e w' => e = .returned (.bool b) ∧ ∃ y, w' = plus w y := by
  have q1 := few_at hm s1
  have q2 := few_at hm2 s2
  refine (plus_post (same_calls _ _ _ _ _ _ _ _ _ hs _ _ _ _ _ _ _ _ _ gs m o w hm hm2 q1.1 q2.1 q1.2.1 q1.2.2.1 q1.2.2.2 q2.2.1 q2.2.2.1 q2.2.2.2)).mono ?_
  rintro e w' ⟨rfl, nx, rfl⟩
  exact ⟨by rw [hb], nx, rfl⟩

set_option maxRecDepth 100000 in
set_option maxHeartbeats 4000000 in
theorem eqfM_calls (ao ao2 : Option Addr) (n n2 cap cap2 : Nat) (hs hs2 : List MH) (ps ps2 : List (List PH)) (ns ns2 : List Ms) (w : World) (hn : n ≤ 100000) (hl : Lay fMh w ao n hs) (hl2 : Lay fMh w ao2 n2 hs2) (hA : MeshesAt w hs ps ns) (hA2 : MeshesAt w hs2 ps2 ns2) (hf : ∀ k, k < ns.length → FewMs (nth ms0 ns k)) (hf2 : ∀ k, k < ns2.length → FewMs (nth ms0 ns2 k)) {v : Bool} (hv : sameL sameMs ms0 ns ns2 = v) :
    Calls Tryz.prog 57 #[.slice ao n cap, .slice ao2 n2 cap2, .func (.func 58) #[] #[]] w fun e w' => e = .returned (.bool v) ∧ ∃ y, w' = plus w y := by
  have hlen := hl.len
  have hlen2 := hl2.len
  have alen := hA.len
  have alen2 := hA2.len
  by_cases hne : n = n2
  rotate_left
  · have dne : ((n : Int) == (n2 : Int)) = false := by rw [beq_eq_false_iff_ne]; omega
    rw [same_len (by omega)] at hv
    subst hv
    go_enter Tryz.func57, Tryz.ntmps57
    go_wp2
    go_ret
    exact ⟨rfl, sk9⟩
  subst hne
  replace hv := Hush9.mk hv
  go_enter Tryz.func57, Tryz.ntmps57
  go_wp2
  go_loopw [17] (fun i wr => ∃ k : Nat, k ≤ n ∧ i = .int .i64 k ∧ (∀ j, j < k → sameMs (nth ms0 ns j) (nth ms0 ns2 j) = true) ∧ ∃ y, wr = plus w y) (fun i _ => n - (intOf i).toNat)
  case atStart => exact ⟨0, Nat.zero_le _, rfl, fun j hj => by omega, sk9⟩
  case round =>
    obtain ⟨k, hk, rfl, hs', hx⟩ := hrel
    by_cases hkl : k < n
    · have ik : (k : Int) < (n : Int) := by omega
      obtain ⟨g1, o1, rfl, hg1, hc1⟩ := hl.some (by omega)
      obtain ⟨g2, o2, rfl, hg2, hc2⟩ := hl2.some (by omega)
      have hp := Hush9.mk (lay_part (d := mh0) hlen fMh_c hc1 hkl)
      have hp2 := Hush9.mk (lay_part (d := mh0) hlen2 fMh_c hc2 hkl)
      have a1 := (hA.one k (by omega)).ex hx
      have a2 := (hA2.one k (by omega)).ex hx
      have f1 := hf k (by omega)
      have f2 := hf2 k (by omega)
      obtain ⟨bq, hq⟩ : ∃ b, sameMs (nth ms0 ns k) (nth ms0 ns2 k) = b := ⟨_, rfl⟩
      replace hq := Hush9.mk hq
      obtain ⟨q, hqs⟩ : ∃ q, wr.heap.size = q := ⟨_, rfl⟩
      clear hc1 hc2
      go_upto_region 6 with (first | (refine wpList_load_part rfl 61 _ rfl g1 (o1 + k * 3) rfl (fMh (nth mh0 hs k)) _ (fun j v hj => cell_ex (ex_trans hx sk9) (hp.it j v hj)) Tryz.underlying61 rfl (by kernel_rfl) ?_; simp only [Act.put, List.setIfInBounds_toArray, List.set_cons_succ, List.set_cons_zero]) | (refine wpList_store_box rfl 61 _ _ rfl q (fMh (nth mh0 hs k)) (by simp [go_sem, hqs]) rfl _ _ (by rw [← hqs]; exact blk_new2 _ _) (by kernel_rfl) (by kernel_rfl) (fMh_1 _) ?_))
      refine name_w (fun w' => (∃ y, w' = plus wr y) ∧ w'.heap[q]? = some (.cells (fMh (nth mh0 hs k)).toArray 61) ∧ w'.heap.size = q + 1) ⟨ex_row_new sk9 (by omega), blk_row_eq (by rw [← hqs]; exact blk_new2 _ _), by rw [setRow_size, size_alloc, hqs]⟩ ?_
      try simp only [hqs]
      rintro w2 ⟨x2, kq, zq⟩
      go_upto_region 7 with (first | (refine wpList_load_part rfl 61 _ rfl g2 (o2 + k * 3) rfl (fMh (nth mh0 hs2 k)) _ (fun j v hj => cell_ex (ex_trans (ex_trans hx x2) sk9) (hp2.it j v hj)) Tryz.underlying61 rfl (by kernel_rfl) ?_; simp only [Act.put, List.setIfInBounds_toArray, List.set_cons_succ, List.set_cons_zero]) | (refine wpList_store_box rfl 61 _ _ rfl (q + 1) (fMh (nth mh0 hs2 k)) (by simp [go_sem, zq]) rfl _ _ (by rw [← zq]; exact blk_new2 _ _) (by kernel_rfl) (by kernel_rfl) (fMh_1 _) ?_))
      refine name_w (fun w' => (∃ y, w' = plus w2 y) ∧ w'.heap[q + 1]? = some (.cells (fMh (nth mh0 hs2 k)).toArray 61)) ⟨ex_row_new sk9 (by omega), blk_row_eq (by rw [← zq]; exact blk_new2 _ _)⟩ ?_
      try simp only [zq]
      rintro w3 ⟨x3, kq2⟩
      have kq1 := blk_ex x3 kq
      cases bq
      · go_wp2_with (first | (refine wpList_load_row rfl 61 _ rfl q rfl _ _ _ _ kq1 Tryz.underlying61 rfl (by kernel_rfl) ?_) | (refine wpList_load_row rfl 61 _ rfl (q + 1) rfl _ _ _ _ kq2 Tryz.underlying61 rfl (by kernel_rfl) ?_) | (go_at_call 58; refine (msame_at hq.it (a1.ex (ex_trans x2 x3)) (a2.ex (ex_trans x2 x3)) f1 f2).mono ?_; rintro e w' ⟨rfl, nx, rfl⟩))
        go_ret
        exact ⟨by rw [← hv.it, same_not (k := k) (by omega) hq.it]; rfl, ex_trans (ex_trans (ex_trans hx x2) x3) sk9⟩
      · go_wp2_with (first | (refine wpList_load_row rfl 61 _ rfl q rfl _ _ _ _ kq1 Tryz.underlying61 rfl (by kernel_rfl) ?_) | (refine wpList_load_row rfl 61 _ rfl (q + 1) rfl _ _ _ _ kq2 Tryz.underlying61 rfl (by kernel_rfl) ?_) | (go_at_call 58; refine (msame_at hq.it (a1.ex (ex_trans x2 x3)) (a2.ex (ex_trans x2 x3)) f1 f2).mono ?_; rintro e w' ⟨rfl, nx, rfl⟩))
        go_roundw
        case rel => exact ⟨k + 1, by omega, by go_num, upto_succ9 hs' hq.it, ex_trans (ex_trans (ex_trans hx x2) x3) sk9⟩
        case measure => simp [intOf]; omega
    · have ik : ¬ (k : Int) < (n : Int) := by omega
      obtain rfl : n = k := by omega
      have hall : sameL sameMs ms0 ns ns2 = true := same_all (by omega) (fun j hj => hs' j (by omega))
      go_wp2
      go_ret
      exact ⟨by rw [← hv.it, hall]; rfl, ex_trans hx sk9⟩

end

section


open Go.RowKit Go.ChangeShapes Go.WideShapes Go.ChangeAt

set_option linter.unusedSimpArgs false

set_option linter.unusedVariables false

attribute [local go_sem] plus_size plus_drew dn_set dn_alloc dn_plus plus_dn cell_plus frozen_plus set_plus cell_alloc frozen_alloc set_alloc

theorem lsameT_at {w : World} {h h2 : TH} {t t2 : Tp} {b : Bool} (hb : sameTp t t2 = b) (a : TexAt w h t) (a2 : TexAt w h2 t2) : Calls Tryz.prog 60 #[.agg (fTh h).toArray, .agg (fTh h2).toArray] w fun e w' => e = .returned (.bool b) ∧ ∃ y, w' = plus w y := by
  have hb' : sameT h.w h.h t.l h2.w h2.h t2.l = b := by rw [a.we, a.he, a2.we, a2.he]; exact hb
  exact tsame_is hb' a.tx.lay a2.tx.lay a.tx.le a2.tx.le

set_option maxRecDepth 100000 in
set_option maxHeartbeats 4000000 in
theorem eqfT_calls (ao ao2 : Option Addr) (n n2 cap cap2 : Nat) (hs hs2 : List TH) (ns ns2 : List Tp) (w : World) (hn : n ≤ 100000) (hl : Lay fTh w ao n hs) (hl2 : Lay fTh w ao2 n2 hs2) (hA : TexsAt w hs ns) (hA2 : TexsAt w hs2 ns2) (hf : ∀ k, k < ns.length → FewTp (nth tp0 ns k)) (hf2 : ∀ k, k < ns2.length → FewTp (nth tp0 ns2 k)) {v : Bool} (hv : sameL sameTp tp0 ns ns2 = v) :
    Calls Tryz.prog 59 #[.slice ao n cap, .slice ao2 n2 cap2, .func (.func 60) #[] #[]] w fun e w' => e = .returned (.bool v) ∧ ∃ y, w' = plus w y := by
  have hlen := hl.len
  have hlen2 := hl2.len
  have alen := hA.len
  have alen2 := hA2.len
  by_cases hne : n = n2
  rotate_left
  · have dne : ((n : Int) == (n2 : Int)) = false := by rw [beq_eq_false_iff_ne]; omega
    rw [same_len (by omega)] at hv
    subst hv
    go_enter Tryz.func59, Tryz.ntmps59
    go_wp2
    go_ret
    exact ⟨rfl, sk9⟩
  subst hne
  replace hv := Hush9.mk hv
  go_enter Tryz.func59, Tryz.ntmps59
  go_wp2
  go_loopw [17] (fun i wr => ∃ k : Nat, k ≤ n ∧ i = .int .i64 k ∧ (∀ j, j < k → sameTp (nth tp0 ns j) (nth tp0 ns2 j) = true) ∧ ∃ y, wr = plus w y) (fun i _ => n - (intOf i).toNat)
  case atStart => exact ⟨0, Nat.zero_le _, rfl, fun j hj => by omega, sk9⟩
  case round =>
    obtain ⟨k, hk, rfl, hs', hx⟩ := hrel
    by_cases hkl : k < n
    · have ik : (k : Int) < (n : Int) := by omega
      obtain ⟨g1, o1, rfl, hg1, hc1⟩ := hl.some (by omega)
      obtain ⟨g2, o2, rfl, hg2, hc2⟩ := hl2.some (by omega)
      have hp := Hush9.mk (lay_part (d := th0) hlen fTh_c hc1 hkl)
      have hp2 := Hush9.mk (lay_part (d := th0) hlen2 fTh_c hc2 hkl)
      have a1 := (hA.one k (by omega)).ex hx
      have a2 := (hA2.one k (by omega)).ex hx
      have f1 := hf k (by omega)
      have f2 := hf2 k (by omega)
      obtain ⟨bq, hq⟩ : ∃ b, sameTp (nth tp0 ns k) (nth tp0 ns2 k) = b := ⟨_, rfl⟩
      replace hq := Hush9.mk hq
      obtain ⟨q, hqs⟩ : ∃ q, wr.heap.size = q := ⟨_, rfl⟩
      clear hc1 hc2
      go_upto_region 6 with (first | (refine wpList_load_part rfl 64 _ rfl g1 (o1 + k * 3) rfl (fTh (nth th0 hs k)) _ (fun j v hj => cell_ex (ex_trans hx sk9) (hp.it j v hj)) Tryz.underlying64 rfl (by kernel_rfl) ?_; simp only [Act.put, List.setIfInBounds_toArray, List.set_cons_succ, List.set_cons_zero]) | (refine wpList_store_box rfl 64 _ _ rfl q (fTh (nth th0 hs k)) (by simp [go_sem, hqs]) rfl _ _ (by rw [← hqs]; exact blk_new2 _ _) (by kernel_rfl) (by kernel_rfl) (fTh_1 _) ?_))
      refine name_w (fun w' => (∃ y, w' = plus wr y) ∧ w'.heap[q]? = some (.cells (fTh (nth th0 hs k)).toArray 64) ∧ w'.heap.size = q + 1) ⟨ex_row_new sk9 (by omega), blk_row_eq (by rw [← hqs]; exact blk_new2 _ _), by rw [setRow_size, size_alloc, hqs]⟩ ?_
      try simp only [hqs]
      rintro w2 ⟨x2, kq, zq⟩
      go_upto_region 7 with (first | (refine wpList_load_part rfl 64 _ rfl g2 (o2 + k * 3) rfl (fTh (nth th0 hs2 k)) _ (fun j v hj => cell_ex (ex_trans (ex_trans hx x2) sk9) (hp2.it j v hj)) Tryz.underlying64 rfl (by kernel_rfl) ?_; simp only [Act.put, List.setIfInBounds_toArray, List.set_cons_succ, List.set_cons_zero]) | (refine wpList_store_box rfl 64 _ _ rfl (q + 1) (fTh (nth th0 hs2 k)) (by simp [go_sem, zq]) rfl _ _ (by rw [← zq]; exact blk_new2 _ _) (by kernel_rfl) (by kernel_rfl) (fTh_1 _) ?_))
      refine name_w (fun w' => (∃ y, w' = plus w2 y) ∧ w'.heap[q + 1]? = some (.cells (fTh (nth th0 hs2 k)).toArray 64)) ⟨ex_row_new sk9 (by omega), blk_row_eq (by rw [← zq]; exact blk_new2 _ _)⟩ ?_
      try simp only [zq]
      rintro w3 ⟨x3, kq2⟩
      have kq1 := blk_ex x3 kq
      cases bq
      · go_wp2_with (first | (refine wpList_load_row rfl 64 _ rfl q rfl _ _ _ _ kq1 Tryz.underlying64 rfl (by kernel_rfl) ?_) | (refine wpList_load_row rfl 64 _ rfl (q + 1) rfl _ _ _ _ kq2 Tryz.underlying64 rfl (by kernel_rfl) ?_) | (go_at_call 60; refine (lsameT_at hq.it (a1.ex (ex_trans x2 x3)) (a2.ex (ex_trans x2 x3))).mono ?_; rintro e w' ⟨rfl, nx, rfl⟩))
        go_ret
        exact ⟨by rw [← hv.it, same_not (k := k) (by omega) hq.it]; rfl, ex_trans (ex_trans (ex_trans hx x2) x3) sk9⟩
      · go_wp2_with (first | (refine wpList_load_row rfl 64 _ rfl q rfl _ _ _ _ kq1 Tryz.underlying64 rfl (by kernel_rfl) ?_) | (refine wpList_load_row rfl 64 _ rfl (q + 1) rfl _ _ _ _ kq2 Tryz.underlying64 rfl (by kernel_rfl) ?_) | (go_at_call 60; refine (lsameT_at hq.it (a1.ex (ex_trans x2 x3)) (a2.ex (ex_trans x2 x3))).mono ?_; rintro e w' ⟨rfl, nx, rfl⟩))
        go_roundw
        case rel => exact ⟨k + 1, by omega, by go_num, upto_succ9 hs' hq.it, ex_trans (ex_trans (ex_trans hx x2) x3) sk9⟩
        case measure => simp [intOf]; omega
    · have ik : ¬ (k : Int) < (n : Int) := by omega
      obtain rfl : n = k := by omega
      have hall : sameL sameTp tp0 ns ns2 = true := same_all (by omega) (fun j hj => hs' j (by omega))
      go_wp2
      go_ret
      exact ⟨by rw [← hv.it, hall]; rfl, ex_trans hx sk9⟩

end

section


open Go.RowKit Go.ChangeShapes Go.WideShapes Go.ChangeAt

set_option linter.unusedSimpArgs false

set_option linter.unusedVariables false

attribute [local go_sem] plus_size plus_drew dn_set dn_alloc dn_plus plus_dn cell_plus frozen_plus set_plus cell_alloc frozen_alloc set_alloc

set_option maxHeartbeats 2000000 in
theorem lcheck_calls (ao : Option Addr) (n cap : Nat) (l : List Sl) (w : World) (hl : Lay fS w ao n l) (hn : n ≤ 9223372036854775807) :
    Calls Tryz.prog 128 #[.agg #[.slice ao n cap]] w fun e w' => e = .returned (.int .i64 (allErr l)) ∧ Below w.heap.size w w' := by
  have hlen := hl.len
  by_cases h3 : n ≤ 128
  rotate_left
  · have i3 : (128 : Int) < (n : Int) := by omega
    have hno : allErr l = 8 := by rw [allErr, if_neg]; simp [arOk]; omega
    rw [hno]
    go_enter Tryz.func128, Tryz.ntmps128
    go_wp2
    go_ret
    exact ⟨rfl, skB⟩
  have i3 : ¬ (128 : Int) < (n : Int) := by omega
  have d3 := decide_eq_false i3
  go_enter Tryz.func128, Tryz.ntmps128
  go_wp2
  go_loopw [12] (fun i wr => ∃ k : Nat, k ≤ n ∧ i = .int .i64 k ∧ (∀ j, j < k → slOk (nth dSl l j) = true) ∧ ∃ x, wr = plus (w.alloc (.cells #[.slice ao n cap] 24)) x) (fun i _ => n - (intOf i).toNat)
  case atStart => exact ⟨0, Nat.zero_le _, rfl, fun j hj => by omega, sk0⟩
  case round =>
    obtain ⟨k, hk, rfl, hs, x, rfl⟩ := hrel
    by_cases hkl : k < n
    · obtain ⟨g, off, rfl, hg, hcell⟩ := hl.some (by omega)
      obtain ⟨c0, c1⟩ := cellS hlen hcell hkl
      have ik : (k : Int) < (n : Int) := by omega
      by_cases h1 : (nth dSl l k).gen < 1
      · have hno : arOk l = false := by rw [arOk, all_bad (d := dSl) (k := k) (by omega) (by simp [slOk]; omega), Bool.false_and]
        go_wp2
        go_ret
        exact ⟨by rw [allErr, hno]; rfl, skB⟩
      have d1 := decide_eq_false h1
      by_cases h2 : 1073741824 < (nth dSl l k).gen
      · have hno : arOk l = false := by rw [arOk, all_bad (d := dSl) (k := k) (by omega) (by simp [slOk]; omega), Bool.false_and]
        go_wp2
        go_ret
        exact ⟨by rw [allErr, hno]; rfl, skB⟩
      · have d2 := decide_eq_false h2
        have hok : slOk (nth dSl l k) = true := by simp [slOk]; omega
        go_wp2
        go_roundw
        case rel => exact ⟨k + 1, by omega, by go_num, upto_succ hs hok, sk0⟩
        case measure => simp [intOf]; omega
    · have ik : ¬ (k : Int) < (n : Int) := by omega
      have hall : l.all slOk = true := all_yes (d := dSl) (fun j hj => hs j (by omega))
      go_wp2
      go_ret
      exact ⟨by rw [allErr, arOk, hall, hlen, decide_eq_true h3]; rfl, skB⟩

theorem lslotOf_calls (s g : Int) (w : World) : Calls Tryz.prog 168 #[.agg #[.int .i64 s, .int .i64 g]] w fun e w' => e = .returned (.agg #[.int .i64 g, .bool true]) ∧ Below w.heap.size w w' := by
  go_enter Tryz.func168, Tryz.ntmps168
  go_wp2
  exact bodyPost_ret (v := .agg #[.int .i64 g, .bool true]) (by simp [results, Tryz.results168, go_sem, ↓IntWalk.iteOmega]) rfl ⟨rfl, skB⟩

set_option maxRecDepth 100000 in
set_option maxHeartbeats 2000000 in
theorem lheld_calls (ao : Option Addr) (n cap : Nat) (l : List Sl) (s g : Int) (w : World) (hl : Lay fS w ao n l) (hn : n ≤ 9223372036854775807) :
    Calls Tryz.prog 129 #[.agg #[.slice ao n cap], .agg #[.int .i64 s, .int .i64 g]] w fun e w' => e = .returned (.bool (heldIn l s g)) ∧ Below w.heap.size w w' := by
  have hlen := hl.len
  by_cases h0 : 0 ≤ s
  rotate_left
  · rw [show heldIn l s g = false by simp [heldIn, h0]]
    have d0 : decide (0 ≤ s) = false := decide_eq_false h0
    go_enter Tryz.func129, Tryz.ntmps129
    go_wp2
    refine region_plus (by kernel_rfl) (by kernel_rfl) ?_
    (repeat (go_big_quiet_step ((go_at_call 168; exact plus_of (lslotOf_calls _ _ _)))))
    refine wpQuiet_nil ?_
    rintro _ ⟨x2, rfl⟩
    go_wp2
    go_ret
    exact ⟨rfl, skB⟩
  by_cases h1 : s < n
  rotate_left
  · rw [show heldIn l s g = false by simp [heldIn, hlen, h1]]
    have d1 : decide (s < (n : Int)) = false := decide_eq_false h1
    go_enter Tryz.func129, Tryz.ntmps129
    go_wp2
    refine region_plus (by kernel_rfl) (by kernel_rfl) ?_
    (repeat (go_big_quiet_step ((go_at_call 168; exact plus_of (lslotOf_calls _ _ _)))))
    refine wpQuiet_nil ?_
    rintro _ ⟨x2, rfl⟩
    go_wp2
    go_ret
    exact ⟨rfl, skB⟩
  obtain ⟨k, rfl⟩ : ∃ k : Nat, s = (k : Int) := ⟨s.toNat, by omega⟩
  obtain ⟨gm, off, rfl, hg, hcell⟩ := hl.some (by omega)
  obtain ⟨c0, c1⟩ := cellS hlen hcell (k := k) (by omega)
  by_cases h3 : (nth dSl l k).gen = g
  rotate_left
  · rw [show heldIn l k g = false by simp [heldIn, h3]]
    have d3 : ((nth dSl l k).gen == g) = false := by rw [beq_eq_false_iff_ne]; exact h3
    go_enter Tryz.func129, Tryz.ntmps129
    go_wp2
    refine region_plus (by kernel_rfl) (by kernel_rfl) ?_
    (repeat (go_big_quiet_step ((go_at_call 168; exact plus_of (lslotOf_calls _ _ _)))))
    refine wpQuiet_nil ?_
    rintro _ ⟨x2, rfl⟩
    go_wp2
    go_ret
    exact ⟨rfl, skB⟩
  cases h2 : (nth dSl l k).live
  · rw [show heldIn l k g = false by simp [heldIn, h2]]
    go_enter Tryz.func129, Tryz.ntmps129
    go_wp2
    refine region_plus (by kernel_rfl) (by kernel_rfl) ?_
    (repeat (go_big_quiet_step ((go_at_call 168; exact plus_of (lslotOf_calls _ _ _)))))
    refine wpQuiet_nil ?_
    rintro _ ⟨x2, rfl⟩
    go_wp2
    go_ret
    exact ⟨rfl, skB⟩
  · rw [show heldIn l k g = true by rw [held_spec, Int.toNat_natCast, hlen]; exact ⟨⟨h0, h1⟩, h2, h3⟩]
    go_enter Tryz.func129, Tryz.ntmps129
    go_wp2
    refine region_plus (by kernel_rfl) (by kernel_rfl) ?_
    (repeat (go_big_quiet_step ((go_at_call 168; exact plus_of (lslotOf_calls _ _ _)))))
    refine wpQuiet_nil ?_
    rintro _ ⟨x2, rfl⟩
    go_wp2
    go_ret
    exact ⟨rfl, skB⟩

theorem lholds_calls (ao : Option Addr) (n cap : Nat) (l : List Sl) (s g : Int) (w : World) (hl : Lay fS w ao n l) (hn : n ≤ 9223372036854775807) :
    Calls Tryz.prog 79 #[.agg #[.slice ao n cap], .agg #[.int .i64 s, .int .i64 g]] w fun e w' => e = .returned (.bool (holds l s g)) ∧ Below w.heap.size w w' := by
  cases ho : arOk l
  · rw [show holds l s g = false by rw [holds, ho, Bool.false_and]]
    have he : allErr l = 8 := by rw [allErr, ho]; rfl
    go_enter Tryz.func79, Tryz.ntmps79
    go_wp2_with (first | (go_at_call 128; refine (plus_post (lcheck_calls _ _ _ l _ (hl.ex sk0) (by omega))).mono ?_; rintro e w' ⟨rfl, nx, rfl⟩; rw [he]) | (go_at_call 129; refine (plus_post (lheld_calls _ _ _ l _ _ _ (hl.ex sk0) (by omega))).mono ?_; rintro e w' ⟨rfl, nx, rfl⟩))
    go_ret
    exact ⟨rfl, skB⟩
  · rw [show holds l s g = heldIn l s g by rw [holds, ho, Bool.true_and]]
    have he : allErr l = 0 := by rw [allErr, ho]; rfl
    go_enter Tryz.func79, Tryz.ntmps79
    go_wp2_with (first | (go_at_call 128; refine (plus_post (lcheck_calls _ _ _ l _ (hl.ex sk0) (by omega))).mono ?_; rintro e w' ⟨rfl, nx, rfl⟩; rw [he]) | (go_at_call 129; refine (plus_post (lheld_calls _ _ _ l _ _ _ (hl.ex sk0) (by omega))).mono ?_; rintro e w' ⟨rfl, nx, rfl⟩))
    go_ret
    exact ⟨rfl, skB⟩

end

section


open Go.RowKit Go.ChangeShapes Go.WideShapes Go.ChangeAt

set_option linter.unusedSimpArgs false

set_option linter.unusedVariables false

attribute [local go_sem] plus_size plus_drew dn_set dn_alloc dn_plus plus_dn cell_plus frozen_plus set_plus cell_alloc frozen_alloc set_alloc

theorem lfree_calls (ao : Option Addr) (n cap k : Nat) (l : List Sl) (w : World) (hl : Lay fS w ao n l) (hk : k < n) :
    Calls Tryz.prog 178 #[.slice ao n cap, .int .i64 k] w fun e w' => e = .returned (.bool (freeS (nth dSl l k))) ∧ Below w.heap.size w w' := by
  obtain ⟨g, off, rfl, hg, hcell⟩ := hl.some (by omega)
  obtain ⟨c0, c1⟩ := cellS hl.len hcell hk
  have ik : (k : Int) < (n : Int) := by omega
  cases hv : (nth dSl l k).live
  rotate_left
  · rw [show freeS (nth dSl l k) = false by simp [freeS, hv]]
    rw [hv] at c1
    go_enter Tryz.func178, Tryz.ntmps178
    go_wp2
    go_ret
    exact ⟨rfl, skB⟩
  rw [hv] at c1
  by_cases h2 : (nth dSl l k).gen < 1073741824
  · rw [show freeS (nth dSl l k) = true by simp [freeS, hv, h2]]
    go_enter Tryz.func178, Tryz.ntmps178
    go_wp2
    go_ret
    exact ⟨rfl, skB⟩
  · rw [show freeS (nth dSl l k) = false by simp [freeS, h2]]
    have d2 := decide_eq_false h2
    go_enter Tryz.func178, Tryz.ntmps178
    go_wp2
    go_ret
    exact ⟨rfl, skB⟩

set_option maxHeartbeats 2000000 in
theorem lfirst_calls (ao : Option Addr) (n cap : Nat) (l : List Sl) (w : World) (hl : Lay fS w ao n l) (hn : n ≤ 10000) :
    Calls Tryz.prog 177 #[.func (.func 178) #[.slice ao n cap] #[], .int .i64 n] w fun e w' => e = .returned (.int .i64 (freeAt l)) ∧ Below w.heap.size w w' := by
  have hlen := hl.len
  go_enter Tryz.func177, Tryz.ntmps177
  go_wp2
  go_loopw [7] (fun i wr => ∃ k : Nat, k ≤ n ∧ i = .int .i64 k ∧ (∀ j, j < k → freeS (nth dSl l j) = false) ∧ ∃ x, wr = plus w x) (fun i _ => n - (intOf i).toNat)
  case atStart => exact ⟨0, Nat.zero_le _, rfl, fun j hj => by omega, sk0⟩
  case round =>
    obtain ⟨k, hk, rfl, hs, x, rfl⟩ := hrel
    by_cases hkl : k < n
    · have ik : (k : Int) < (n : Int) := by omega
      cases hf : freeS (nth dSl l k)
      · go_wp2_with (go_at_call 178; refine (plus_post (lfree_calls _ _ _ _ l _ (hl.ex sk0) hkl)).mono ?_; rintro e w' ⟨rfl, nx, rfl⟩; rw [hf])
        go_roundw
        case rel => exact ⟨k + 1, by omega, by go_num, upto_succ hs hf, sk0⟩
        case measure => simp [intOf]; omega
      · have hfa : freeAt l = k := freeAt_is (by omega) hs (fun _ => hf)
        go_wp2_with (go_at_call 178; refine (plus_post (lfree_calls _ _ _ _ l _ (hl.ex sk0) hkl)).mono ?_; rintro e w' ⟨rfl, nx, rfl⟩; rw [hf])
        go_ret
        exact ⟨by first | rfl | (rw [hfa]; rfl), skB⟩
    · have ik : ¬ (k : Int) < (n : Int) := by omega
      have hfa : freeAt l = n := freeAt_is (by omega) (fun j hj => hs j (by omega)) (fun h => by omega)
      go_wp2
      go_ret
      exact ⟨by first | rfl | (rw [hfa]; rfl), skB⟩

set_option maxHeartbeats 2000000 in
theorem equalS_calls (ao ao2 : Option Addr) (n n2 cap cap2 : Nat) (l l2 : List Sl) (w : World) (hl : Lay fS w ao n l) (hl2 : Lay fS w ao2 n2 l2) (hn : n ≤ 10000) (hn2 : n2 ≤ 10000) :
    Calls Tryz.prog 153 #[.slice ao n cap, .slice ao2 n2 cap2] w fun e w' => e = .returned (.bool (sameS l l2)) ∧ Below w.heap.size w w' := by
  have hlen := hl.len
  have hlen2 := hl2.len
  by_cases hne : n = n2
  rotate_left
  · rw [show sameS l l2 = false from same_len (by omega)]
    have ine : ¬ (n : Int) = (n2 : Int) := by omega
    have dne : ((n : Int) == (n2 : Int)) = false := by rw [beq_eq_false_iff_ne]; omega
    go_enter Tryz.func153, Tryz.ntmps153
    go_wp2
    go_ret
    exact ⟨rfl, skB⟩
  subst hne
  go_enter Tryz.func153, Tryz.ntmps153
  go_wp2
  go_loopw [13] (fun i wr => ∃ k : Nat, k ≤ n ∧ i = .int .i64 k ∧ (∀ j, j < k → eqS (nth dSl l j) (nth dSl l2 j) = true) ∧ ∃ x, wr = plus w x) (fun i _ => n - (intOf i).toNat)
  case atStart => exact ⟨0, Nat.zero_le _, rfl, fun j hj => by omega, sk0⟩
  case round =>
    obtain ⟨k, hk, rfl, hs, x, rfl⟩ := hrel
    by_cases hkl : k < n
    · obtain ⟨g, off, rfl, hg, hcell⟩ := hl.some (by omega)
      obtain ⟨g2, off2, rfl, hg2, hcell2⟩ := hl2.some (by omega)
      have ik : (k : Int) < (n : Int) := by omega
      obtain ⟨c0, c1⟩ := cellS hlen hcell hkl
      obtain ⟨d0, d1⟩ := cellS hlen2 hcell2 hkl
      by_cases q0 : (nth dSl l k).gen = (nth dSl l2 k).gen
      rotate_left
      · have dq : ((nth dSl l k).gen == (nth dSl l2 k).gen) = false := by simp [q0]
        go_wp2
        refine region_plus (by kernel_rfl) (by kernel_rfl) ?_
        (repeat (go_big_quiet_step (fail)))
        refine wpQuiet_nil ?_
        rintro _ ⟨x2, rfl⟩
        go_wp2
        go_ret
        exact ⟨by rw [show sameS l l2 = false from same_not (k := k) (by omega) (by simp [eqS, q0])]; rfl, skB⟩
      by_cases q1 : (nth dSl l k).live = (nth dSl l2 k).live
      rotate_left
      · have dq : ((nth dSl l k).live == (nth dSl l2 k).live) = false := by simp [q1]
        go_wp2
        refine region_plus (by kernel_rfl) (by kernel_rfl) ?_
        (repeat (go_big_quiet_step (fail)))
        refine wpQuiet_nil ?_
        rintro _ ⟨x2, rfl⟩
        go_wp2
        go_ret
        exact ⟨by rw [show sameS l l2 = false from same_not (k := k) (by omega) (by simp [eqS, q1])]; rfl, skB⟩
      go_wp2
      refine region_plus (by kernel_rfl) (by kernel_rfl) ?_
      (repeat (go_big_quiet_step (fail)))
      refine wpQuiet_nil ?_
      rintro _ ⟨x2, rfl⟩
      go_wp2
      go_roundw
      case rel => exact ⟨k + 1, by omega, by go_num, upto_succ hs (by simp [eqS, q0, q1]), sk0⟩
      case measure => simp [intOf]; omega
    · have ik : ¬ (k : Int) < (n : Int) := by omega
      go_wp2
      go_ret
      exact ⟨by rw [show sameS l l2 = true from same_all (by omega) (fun j hj => hs j (by omega))]; rfl, skB⟩

theorem lsame_calls (ao ao2 : Option Addr) (n n2 cap cap2 : Nat) (l l2 : List Sl) (w : World) (hl : Lay fS w ao n l) (hl2 : Lay fS w ao2 n2 l2) (hn : n ≤ 10000) (hn2 : n2 ≤ 10000) :
    Calls Tryz.prog 104 #[.agg #[.slice ao n cap], .agg #[.slice ao2 n2 cap2]] w fun e w' => e = .returned (.bool (sameS l l2)) ∧ Below w.heap.size w w' := by
  go_enter Tryz.func104, Tryz.ntmps104
  go_wp2_with (go_at_call 153; refine (plus_post (equalS_calls _ _ _ _ _ _ l l2 _ (hl.ex sk0) (hl2.ex sk0) hn hn2)).mono ?_; rintro e w' ⟨rfl, nx, rfl⟩)
  go_ret
  exact ⟨rfl, skB⟩

theorem ltwin_calls (ao : Option Addr) (n cap : Nat) (l : List Sl) (w : World) (hl : Lay fS w ao n l) (hn : n ≤ 10000) :
    Calls Tryz.prog 81 #[.agg #[.slice ao n cap]] w fun e w' => ∃ ao' cap', e = .returned (.agg #[.slice ao' n cap']) ∧ (∃ y, w' = plus w y) ∧ Own 86 2 fS w w' ao' n cap' l := by
  have hlen := hl.len
  obtain ⟨cur, hcur, hmk⟩ := run_make_lay kinS.info kinS.und n (by omega) (by decide)
  have hcp := run_copy_new (W := ((w.alloc (.cells #[.slice ao n cap] 24))).alloc (.cells #[.slice none 0 0] 24)) (g := w.heap.size + 1 + 1) (cap := n) (c2 := cap) (t2 := 22) (ty := 3) (ob := .cells #[.slice (some ⟨w.heap.size + 1 + 1, 0, none⟩) n n] 24) kinS fS_c fS_1 (by simp [go_sem]) (hl.ex sk0) hcur
  go_enter Tryz.func81, Tryz.ntmps81
  go_wp2
  exact bodyPost_ret (v := .agg #[.slice (some ⟨w.heap.size + 1 + 1, 0, none⟩) n n]) (by simp [results, Tryz.results81, go_sem, ↓IntWalk.iteOmega]) rfl ⟨some ⟨w.heap.size + 1 + 1, 0, none⟩, n, rfl, sk0, own_row hlen fS_c (by rw [blk_alloc, if_neg (by simp), blk_alloc, if_pos (by simp)]) (by omega) (by unfold maxLen; omega)⟩

end

section


open Go.RowKit Go.ChangeShapes Go.WideShapes Go.ChangeAt

set_option linter.unusedSimpArgs false

set_option linter.unusedVariables false

attribute [local go_sem] plus_size plus_drew dn_set dn_alloc dn_plus plus_dn cell_plus frozen_plus set_plus cell_alloc frozen_alloc set_alloc

theorem held_at {l : List Sl} {k : Nat} (hk : k < l.length) : heldIn l (k : Int) (nth dSl l k).gen = (nth dSl l k).live := by
  have h2 : (0 : Int) ≤ (k : Int) ∧ (k : Int) < (l.length : Int) := by omega
  simp [heldIn, hk]

set_option maxHeartbeats 4000000 in
theorem lkill_calls (ao : Option Addr) (n cap : Nat) (l : List Sl) (s g : Int) (w : World) (hl : Lay fS w ao n l) (hn : n ≤ 1000) :
    Calls Tryz.prog 165 #[.agg #[.slice ao n cap], .agg #[.int .i64 s, .int .i64 g]] w fun e w' => RetA w (killRes l s g) (killErr l s g) e w' := by
  have hlen := hl.len
  cases ho : arOk l
  · have hC : allErr l = 8 := by rw [allErr, ho]; rfl
    have he : killErr l s g = 8 := by rw [killErr, ho]; rfl
    rw [he, show killRes l s g = [] by rw [killRes, he]; rfl]
    go_enter Tryz.func165, Tryz.ntmps165
    go_wp2_with (go_at_call 128; refine (plus_post (lcheck_calls _ _ _ l _ (hl.ex sk0) (by omega))).mono ?_; rintro e w' ⟨rfl, nx, rfl⟩; rw [hC])
    exact bodyPost_ret (v := .tuple #[.agg #[.slice none 0 0], .int .i64 8]) (by simp [results, Tryz.results165, go_sem, ↓IntWalk.iteOmega]) rfl ⟨none, 0, rfl, sk0, own_nil⟩
  have hC : allErr l = 0 := by rw [allErr, ho]; rfl
  cases hh : heldIn l s g
  · have he : killErr l s g = 50 := by rw [killErr, ho, hh]; rfl
    rw [he, show killRes l s g = [] by rw [killRes, he]; rfl]
    go_enter Tryz.func165, Tryz.ntmps165
    go_wp2_with (first | (go_at_call 128; refine (plus_post (lcheck_calls _ _ _ l _ (hl.ex sk0) (by omega))).mono ?_; rintro e w' ⟨rfl, nx, rfl⟩; rw [hC]) | (go_at_call 129; refine (plus_post (lheld_calls _ _ _ l _ _ _ (hl.ex sk0) (by omega))).mono ?_; rintro e w' ⟨rfl, nx, rfl⟩; rw [hh]))
    exact bodyPost_ret (v := .tuple #[.agg #[.slice none 0 0], .int .i64 50]) (by simp [results, Tryz.results165, go_sem, ↓IntWalk.iteOmega]) rfl ⟨none, 0, rfl, sk0, own_nil⟩
  have he : killErr l s g = 0 := by rw [killErr, ho, hh]; rfl
  rw [he, show killRes l s g = killList l s by rw [killRes, he]; rfl]
  obtain ⟨⟨s0, s1⟩, _⟩ := held_spec.1 hh
  obtain ⟨k, rfl⟩ : ∃ k : Nat, s = (k : Int) := ⟨s.toNat, by omega⟩
  have hk : k < n := by omega
  have ik : (k : Int) < (n : Int) := by omega
  have hkl : (killList l (k : Int)).length = n := by rw [killList, List.length_set]; exact hlen
  go_enter Tryz.func165, Tryz.ntmps165
  go_wp2_with (first | (go_at_call 128; refine (plus_post (lcheck_calls _ _ _ l _ (hl.ex sk0) (by omega))).mono ?_; rintro e w' ⟨rfl, nx, rfl⟩; rw [hC]) | (go_at_call 129; refine (plus_post (lheld_calls _ _ _ l _ _ _ (hl.ex sk0) (by omega))).mono ?_; rintro e w' ⟨rfl, nx, rfl⟩; rw [hh]) | (go_at_call 81; refine (ltwin_calls _ _ _ l _ (hl.ex sk0) (by omega)).mono ?_; rintro e w1 ⟨a1, c1, rfl, hw1, o1⟩; have b0 : w1.cell? ⟨w.heap.size + 1, 0, none⟩ = some (.int .i64 k) := cell_ex hw1 (by simp [go_sem, ↓IntWalk.iteOmega]); have hres : w1.heap[w.heap.size + 1 + 1]? = some (.cells #[.slice none 0 0] 24) := blk_ex (w := ((w.alloc (.cells #[.slice ao n cap] 24)).alloc (.cells #[.int .i64 k, .int .i64 g] 32)).alloc (.cells #[.slice none 0 0] 24)) sn0 (by rw [blk_alloc, if_pos (by simp [go_sem])]); obtain ⟨g1, cur, rfl, hg1, hb1, hsz⟩ := o1.blk (by omega); obtain ⟨_, _, eqa, hlt1, hc1⟩ := o1.lay.some (by omega); cases eqa; obtain ⟨x0, x1⟩ := cellS o1.1 hc1 (k := k) hk; rw [Nat.zero_add] at x0 x1; have z1 := frozen_blk (i := k * 2 + 1) hb1; have y0 := cell_blk (i := 0) hres rfl; have zy := frozen_blk (i := 0) hres; have hrl := blk_lt hres))
  have hgw : w.heap.size ≤ g1 := by simp [go_sem] at hg1; omega
  have hne : g1 ≠ w.heap.size + 1 + 1 := by
    intro e0
    rw [e0, hres] at hb1
    cases hb1
  have o2 := o1.set_self (u := .bool false) k 1 ⟨(nth dSl l k).gen, false⟩ dSl hk fS_c (by decide) rfl
  have hres2 : (w1.setCell ⟨g1, k * 2 + 1, none⟩ (.bool false)).heap[w.heap.size + 1 + 1]? = _ := (blk_set_ne hne).trans hres
  have o3 := (o2.set_other (i := 0) (u := .slice (some ⟨g1, 0, none⟩) n c1) hres2 (by decide)).ex (ex_alloc (o := .cells #[.slice (some ⟨g1, 0, none⟩) n c1] 24) (ex_refl _))
  have hres3 := blk_ex (ex_alloc (o := .cells #[.slice (some ⟨g1, 0, none⟩) n c1] 24) (ex_refl _)) (blk_set_eq (i := 0) (u := .slice (some ⟨g1, 0, none⟩) n c1) hres2)
  have hx3 : ∃ y, ((w1.setCell ⟨g1, k * 2 + 1, none⟩ (.bool false)).setCell ⟨w.heap.size + 1 + 1, 0, none⟩ (.slice (some ⟨g1, 0, none⟩) n c1)).alloc (.cells #[.slice (some ⟨g1, 0, none⟩) n c1] 24) = plus w y := ex_alloc (ex_set_new (ex_set_new sn0 hgw) (by omega))
  generalize ((w1.setCell ⟨g1, k * 2 + 1, none⟩ (.bool false)).setCell ⟨w.heap.size + 1 + 1, 0, none⟩ (.slice (some ⟨g1, 0, none⟩) n c1)).alloc (.cells #[.slice (some ⟨g1, 0, none⟩) n c1] 24) = w4 at *
  have c0 := cell_blk (i := 0) hres3 rfl
  exact bodyPost_ret (v := .tuple #[.agg #[.slice (some ⟨g1, 0, none⟩) n c1], .int .i64 0]) (by simp [results, Tryz.results165, go_sem, c0]) rfl ⟨some ⟨g1, 0, none⟩, c1, by rw [hkl], hx3, by rw [hkl]; exact o3.base (by simp [go_sem]; omega)⟩

set_option maxHeartbeats 4000000 in
theorem lall_calls (ao : Option Addr) (n cap : Nat) (l : List Sl) (w : World) (hl : Lay fS w ao n l) (hn : n ≤ 9223372036854775807) :
    Calls Tryz.prog 71 #[.agg #[.slice ao n cap]] w fun e w' => RetT f2 w (allList l) (.int .i64 (allErr l)) e w' := by
  have hlen := hl.len
  cases ho : arOk l
  · have hC : allErr l = 8 := by rw [allErr, ho]; rfl
    rw [hC, show allList l = [] by rw [allList, ho]; rfl]
    go_enter Tryz.func71, Tryz.ntmps71
    go_wp2_with (go_at_call 128; refine (plus_post (lcheck_calls _ _ _ l _ (hl.ex sk0) hn)).mono ?_; rintro e w' ⟨rfl, nx, rfl⟩; rw [hC])
    exact bodyPost_ret (v := .tuple #[.slice none 0 0, .int .i64 8]) (by simp [results, Tryz.results71, go_sem]) rfl ⟨_, _, _, rfl, sk0, Lay.nil⟩
  rw [show allErr l = 0 by rw [allErr, ho]; rfl, show allList l = allH l n by rw [allList, ho, hlen]; rfl]
  have h128 := arOk_len ho
  have hC : allErr l = 0 := by rw [allErr, ho]; rfl
  go_enter Tryz.func71, Tryz.ntmps71
  go_wp2_with (go_at_call 128; refine (plus_post (lcheck_calls _ _ _ l _ (hl.ex sk0) hn)).mono ?_; rintro e w' ⟨rfl, nx, rfl⟩; rw [hC])
  go_loopw [5, 17] (fun v i wr => ∃ (k : Nat) (ao' : Option Addr) (cap' : Nat), k ≤ n ∧ v = .slice ao' (allH l k).length cap' ∧ i = .int .i64 k ∧ (∃ y, wr = plus (plus (w.alloc (.cells #[.slice ao n cap] 24)) nx) y) ∧ Own 32 2 f2 (plus (w.alloc (.cells #[.slice ao n cap] 24)) nx) wr ao' (allH l k).length cap' (allH l k)) (fun _ i _ => n - (intOf i).toNat)
  case atStart => exact ⟨0, none, 0, Nat.zero_le _, rfl, rfl, sk0, own_nil⟩
  case round =>
    obtain ⟨k, ao', cap', hk, rfl, rfl, ⟨x, rfl⟩, hown⟩ := hrel
    have hle := allH_le l k
    by_cases hkl : k < n
    · obtain ⟨g, off, rfl, hg, hcell⟩ := hl.some (by omega)
      obtain ⟨c0, c1⟩ := cellS hlen hcell hkl
      have ik : (k : Int) < (n : Int) := by omega
      cases hv : (nth dSl l k).live
      · have hs : allH l (k + 1) = allH l k := by show allH l k ++ _ = _; rw [hv]; simp
        go_wp2_with (go_at_call 129; refine (plus_post (lheld_calls _ _ _ l _ _ _ (hl.ex sk0) (by omega))).mono ?_; rintro e w' ⟨rfl, nh, rfl⟩; rw [held_at (by omega), hv])
        go_roundw
        case rel => exact ⟨k + 1, ao', cap', by omega, by rw [hs], by go_num, sk0, by rw [hs]; exact hown.ex sk0⟩
        case measure => simp [intOf]; omega
      · have hs : allH l (k + 1) = allH l k ++ [((k : Int), (nth dSl l k).gen)] := by show allH l k ++ _ = _; rw [hv]; rfl
        have hsn : (allH l (k + 1)).length = (allH l k).length + 1 := by rw [hs, List.length_append]; rfl
        go_wp2_with (first | (go_at_call 129; refine (plus_post (lheld_calls _ _ _ l _ _ _ (hl.ex sk0) (by omega))).mono ?_; rintro e w' ⟨rfl, nh, rfl⟩; rw [held_at (by omega), hv]) | (at_builtin; (refine wpList_append_lay (T := plus (w.alloc (.cells #[.slice (some ⟨g, off, none⟩) n cap] 24)) nx) rfl _ _ rfl kinH f2_c f2_1 rfl sk0 (hown.ex sk0) rfl (l2 := [((k : Int), (nth dSl l k).gen)]) ⟨rfl, .inr ⟨_, 0, rfl, by (simp [go_sem]; try omega), fun jj u hu => by match jj, hu with | 0, hu => (simp [f2] at hu; subst hu; simp [go_sem, ↓IntWalk.iteOmega]) | 1, hu => (simp [f2] at hu; subst hu; simp [go_sem, ↓IntWalk.iteOmega]) | jj + 2, hu => simp [f2] at hu⟩⟩ (by omega) (by decide) ?_; intro ao' cap' y' hown')))
        go_roundw
        case rel => exact ⟨k + 1, ao', cap', by omega, by rw [hsn], by go_num, ⟨y', rfl⟩, by rw [hsn, hs]; exact hown'⟩
        case measure => simp [intOf]; omega
    · have ik : ¬ (k : Int) < (n : Int) := by omega
      obtain rfl : k = n := by omega
      go_wp2
      exact bodyPost_ret (v := .tuple #[.slice ao' (allH l k).length cap', .int .i64 0]) (by simp [results, Tryz.results71, go_sem]) rfl ⟨_, _, _, rfl, sk0, hown.lay⟩

end

end Go.Proofs.YtcekcihijdipoaaGreat
