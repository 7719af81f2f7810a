/- What dioramaref07.Check, Begin, Under and Along give. -/
import Derived.Test.YthcplebmffbmpaaSt6
import Derived.Test.YthcplebmffbmpaaSt7
import Derived.Test.YthcplebmffbmpaaStAlong
import Derived.Test.YthcplebmffbmpaaStOpen
namespace Go.Proofs.Ythcplebmffbmpaa
open Go.RowKit Go.ChangeShapes Go.WideShapes Go.ChangeAt
set_option linter.unusedSimpArgs false
set_option linter.unusedVariables false
attribute [local go_sem] plus_size plus_drew dn_set dn_alloc dn_plus plus_dn cell_plus frozen_plus set_plus cell_alloc frozen_alloc set_alloc

theorem rbegin_calls  (w : World) :
    Calls Try.prog 19 #[] w fun e w' => e = .returned (.agg #[.int .u8 ihW.l.r, .int .u8 ihW.l.g, .int .u8 ihW.l.b, .int .u8 ihW.l.a, .int .i64 ihW.l.tx, .int .u8 ihW.l.cu, .int .i64 ihW.l.bi, .bool ihW.l.bl, .int .i64 ihW.l.bn, .bool ihW.k0, .bool ihW.k1, .bool ihW.k2, .bool ihW.k3, .bool ihW.k4]) ∧ Below w.heap.size w w' := by
  go_enter Try.func19, Try.ntmps19
  go_wp2
  exact bodyPost_ret (v := .agg #[.int .u8 ihW.l.r, .int .u8 ihW.l.g, .int .u8 ihW.l.b, .int .u8 ihW.l.a, .int .i64 ihW.l.tx, .int .u8 ihW.l.cu, .int .i64 ihW.l.bi, .bool ihW.l.bl, .int .i64 ihW.l.bn, .bool ihW.k0, .bool ihW.k1, .bool ihW.k2, .bool ihW.k3, .bool ihW.k4]) (by simp [ihW, lkW, results, Try.results19, go_sem, ↓IntWalk.iteOmega]) rfl ⟨rfl, by with_reducible repeat (first | exact Below.refl _ _ | apply ba | apply bp | apply bd | apply bn)⟩

theorem rsty_calls (s0 s1 s2 s3 s4 : Int) (vr vg vb va vt vc vi : Int) (vl : Bool) (vn : Int) (hB : SyB ⟨s0, s1, s2, s3, s4, ⟨vr, vg, vb, va, vt, vc, vi, vl, vn⟩⟩) (w : World) :
    Calls Try.prog 16 #[.agg #[.int .u8 s0, .int .u8 s1, .int .u8 s2, .int .u8 s3, .int .u8 s4, .int .u8 vr, .int .u8 vg, .int .u8 vb, .int .u8 va, .int .i64 vt, .int .u8 vc, .int .i64 vi, .bool vl, .int .i64 vn]] w fun e w' => e = .returned (.int .i64 (styErr ⟨s0, s1, s2, s3, s4, ⟨vr, vg, vb, va, vt, vc, vi, vl, vn⟩⟩)) ∧ Below w.heap.size w w' := by
  cases hL : styOk ⟨s0, s1, s2, s3, s4, ⟨vr, vg, vb, va, vt, vc, vi, vl, vn⟩⟩
  all_goals
    rw [styErr, hL]
    go_enter Try.func16, Try.ntmps16
    go_wp2_with (go_at_call 29; refine (plus_post (rmay_calls _ _ _ _ _ _ _ _ _ _ _ _ _ _ hB _)).mono ?_; rintro e w' ⟨rfl, nx, rfl⟩; simp only [hL])
    go_ret
    exact ⟨rfl, by with_reducible repeat (first | exact Below.refl _ _ | apply ba | apply bp | apply bd | apply bn)⟩

set_option maxRecDepth 100000 in
set_option maxHeartbeats 4000000 in
theorem runder_calls (ur ug ub ua ut uc ui : Int) (ul : Bool) (un : Int) (k0 k1 k2 k3 k4 : Bool) (s0 s1 s2 s3 s4 : Int) (vr vg vb va vt vc vi : Int) (vl : Bool) (vn : Int) (hB : SyB ⟨s0, s1, s2, s3, s4, ⟨vr, vg, vb, va, vt, vc, vi, vl, vn⟩⟩) (w : World) :
    Calls Try.prog 15 #[.agg #[.int .u8 ur, .int .u8 ug, .int .u8 ub, .int .u8 ua, .int .i64 ut, .int .u8 uc, .int .i64 ui, .bool ul, .int .i64 un, .bool k0, .bool k1, .bool k2, .bool k3, .bool k4], .agg #[.int .u8 s0, .int .u8 s1, .int .u8 s2, .int .u8 s3, .int .u8 s4, .int .u8 vr, .int .u8 vg, .int .u8 vb, .int .u8 va, .int .i64 vt, .int .u8 vc, .int .i64 vi, .bool vl, .int .i64 vn]] w fun e w' => e = .returned (.tuple #[.agg #[.int .u8 ((under ⟨⟨ur, ug, ub, ua, ut, uc, ui, ul, un⟩, k0, k1, k2, k3, k4⟩ ⟨s0, s1, s2, s3, s4, ⟨vr, vg, vb, va, vt, vc, vi, vl, vn⟩⟩).l).r, .int .u8 ((under ⟨⟨ur, ug, ub, ua, ut, uc, ui, ul, un⟩, k0, k1, k2, k3, k4⟩ ⟨s0, s1, s2, s3, s4, ⟨vr, vg, vb, va, vt, vc, vi, vl, vn⟩⟩).l).g, .int .u8 ((under ⟨⟨ur, ug, ub, ua, ut, uc, ui, ul, un⟩, k0, k1, k2, k3, k4⟩ ⟨s0, s1, s2, s3, s4, ⟨vr, vg, vb, va, vt, vc, vi, vl, vn⟩⟩).l).b, .int .u8 ((under ⟨⟨ur, ug, ub, ua, ut, uc, ui, ul, un⟩, k0, k1, k2, k3, k4⟩ ⟨s0, s1, s2, s3, s4, ⟨vr, vg, vb, va, vt, vc, vi, vl, vn⟩⟩).l).a, .int .i64 ((under ⟨⟨ur, ug, ub, ua, ut, uc, ui, ul, un⟩, k0, k1, k2, k3, k4⟩ ⟨s0, s1, s2, s3, s4, ⟨vr, vg, vb, va, vt, vc, vi, vl, vn⟩⟩).l).tx, .int .u8 ((under ⟨⟨ur, ug, ub, ua, ut, uc, ui, ul, un⟩, k0, k1, k2, k3, k4⟩ ⟨s0, s1, s2, s3, s4, ⟨vr, vg, vb, va, vt, vc, vi, vl, vn⟩⟩).l).cu, .int .i64 ((under ⟨⟨ur, ug, ub, ua, ut, uc, ui, ul, un⟩, k0, k1, k2, k3, k4⟩ ⟨s0, s1, s2, s3, s4, ⟨vr, vg, vb, va, vt, vc, vi, vl, vn⟩⟩).l).bi, .bool ((under ⟨⟨ur, ug, ub, ua, ut, uc, ui, ul, un⟩, k0, k1, k2, k3, k4⟩ ⟨s0, s1, s2, s3, s4, ⟨vr, vg, vb, va, vt, vc, vi, vl, vn⟩⟩).l).bl, .int .i64 ((under ⟨⟨ur, ug, ub, ua, ut, uc, ui, ul, un⟩, k0, k1, k2, k3, k4⟩ ⟨s0, s1, s2, s3, s4, ⟨vr, vg, vb, va, vt, vc, vi, vl, vn⟩⟩).l).bn, .bool ((under ⟨⟨ur, ug, ub, ua, ut, uc, ui, ul, un⟩, k0, k1, k2, k3, k4⟩ ⟨s0, s1, s2, s3, s4, ⟨vr, vg, vb, va, vt, vc, vi, vl, vn⟩⟩)).k0, .bool ((under ⟨⟨ur, ug, ub, ua, ut, uc, ui, ul, un⟩, k0, k1, k2, k3, k4⟩ ⟨s0, s1, s2, s3, s4, ⟨vr, vg, vb, va, vt, vc, vi, vl, vn⟩⟩)).k1, .bool ((under ⟨⟨ur, ug, ub, ua, ut, uc, ui, ul, un⟩, k0, k1, k2, k3, k4⟩ ⟨s0, s1, s2, s3, s4, ⟨vr, vg, vb, va, vt, vc, vi, vl, vn⟩⟩)).k2, .bool ((under ⟨⟨ur, ug, ub, ua, ut, uc, ui, ul, un⟩, k0, k1, k2, k3, k4⟩ ⟨s0, s1, s2, s3, s4, ⟨vr, vg, vb, va, vt, vc, vi, vl, vn⟩⟩)).k3, .bool ((under ⟨⟨ur, ug, ub, ua, ut, uc, ui, ul, un⟩, k0, k1, k2, k3, k4⟩ ⟨s0, s1, s2, s3, s4, ⟨vr, vg, vb, va, vt, vc, vi, vl, vn⟩⟩)).k4], .int .i64 (underErr ⟨⟨ur, ug, ub, ua, ut, uc, ui, ul, un⟩, k0, k1, k2, k3, k4⟩ ⟨s0, s1, s2, s3, s4, ⟨vr, vg, vb, va, vt, vc, vi, vl, vn⟩⟩)]) ∧ Below w.heap.size w w' := by
  obtain ⟨M, hM⟩ : ∃ M, under ⟨⟨ur, ug, ub, ua, ut, uc, ui, ul, un⟩, k0, k1, k2, k3, k4⟩ ⟨s0, s1, s2, s3, s4, ⟨vr, vg, vb, va, vt, vc, vi, vl, vn⟩⟩ = M := ⟨_, rfl⟩
  rw [hM]
  cases hL : lookOk ⟨ur, ug, ub, ua, ut, uc, ui, ul, un⟩
  · rw [show underErr ⟨⟨ur, ug, ub, ua, ut, uc, ui, ul, un⟩, k0, k1, k2, k3, k4⟩ ⟨s0, s1, s2, s3, s4, ⟨vr, vg, vb, va, vt, vc, vi, vl, vn⟩⟩ = 8 by rw [underErr, underOk, hL]; rfl]
    obtain rfl : ih0 = M := by rw [← hM, under, underOk, hL]; rfl
    clear hM
    have hs5 : True := trivial
    go_enter Try.func15, Try.ntmps15
    go_wp2_with (first | (go_at_call 28; refine (plus_post (mayLook_calls _ _ _ _ _ _ _ _ _ _)).mono ?_; rintro e w' ⟨rfl, nx, rfl⟩) | (go_at_call 29; refine (plus_post (rmay_calls _ _ _ _ _ _ _ _ _ _ _ _ _ _ hB _)).mono ?_; rintro e w' ⟨rfl, nx, rfl⟩) | (go_at_call 30; refine (plus_post (made_calls _ _ _ _ _ _ _ _ _ _ _ _ _ _ _ _ _ _ _ _ _ _ _ _ _ _ _ _ hs5 _)).mono ?_; rintro e w' ⟨rfl, nx, rfl⟩))
    exact bodyPost_ret (v := .tuple #[.agg #[.int .u8 0, .int .u8 0, .int .u8 0, .int .u8 0, .int .i64 0, .int .u8 0, .int .i64 0, .bool false, .int .i64 0, .bool false, .bool false, .bool false, .bool false, .bool false], .int .i64 8]) (by simp [results, Try.results15, go_sem, ↓IntWalk.iteOmega]) rfl ⟨rfl, by with_reducible repeat (first | exact Below.refl _ _ | apply ba | apply bp | apply bd | apply bn)⟩
  cases hY : styOk ⟨s0, s1, s2, s3, s4, ⟨vr, vg, vb, va, vt, vc, vi, vl, vn⟩⟩
  · rw [show underErr ⟨⟨ur, ug, ub, ua, ut, uc, ui, ul, un⟩, k0, k1, k2, k3, k4⟩ ⟨s0, s1, s2, s3, s4, ⟨vr, vg, vb, va, vt, vc, vi, vl, vn⟩⟩ = 8 by rw [underErr, underOk, hY, Bool.and_false]; rfl]
    obtain rfl : ih0 = M := by rw [← hM, under, underOk, hY, Bool.and_false]; rfl
    clear hM
    have hs5 : True := trivial
    go_enter Try.func15, Try.ntmps15
    go_wp2_with (first | (go_at_call 28; refine (plus_post (mayLook_calls _ _ _ _ _ _ _ _ _ _)).mono ?_; rintro e w' ⟨rfl, nx, rfl⟩) | (go_at_call 29; refine (plus_post (rmay_calls _ _ _ _ _ _ _ _ _ _ _ _ _ _ hB _)).mono ?_; rintro e w' ⟨rfl, nx, rfl⟩) | (go_at_call 30; refine (plus_post (made_calls _ _ _ _ _ _ _ _ _ _ _ _ _ _ _ _ _ _ _ _ _ _ _ _ _ _ _ _ hs5 _)).mono ?_; rintro e w' ⟨rfl, nx, rfl⟩))
    exact bodyPost_ret (v := .tuple #[.agg #[.int .u8 0, .int .u8 0, .int .u8 0, .int .u8 0, .int .i64 0, .int .u8 0, .int .i64 0, .bool false, .int .i64 0, .bool false, .bool false, .bool false, .bool false, .bool false], .int .i64 8]) (by simp [results, Try.results15, go_sem, ↓IntWalk.iteOmega]) rfl ⟨rfl, by with_reducible repeat (first | exact Below.refl _ _ | apply ba | apply bp | apply bd | apply bn)⟩
  rw [show underErr ⟨⟨ur, ug, ub, ua, ut, uc, ui, ul, un⟩, k0, k1, k2, k3, k4⟩ ⟨s0, s1, s2, s3, s4, ⟨vr, vg, vb, va, vt, vc, vi, vl, vn⟩⟩ = 0 by rw [underErr, underOk, hL, hY]; rfl]
  have hN : made ⟨⟨ur, ug, ub, ua, ut, uc, ui, ul, un⟩, k0, k1, k2, k3, k4⟩ ⟨s0, s1, s2, s3, s4, ⟨vr, vg, vb, va, vt, vc, vi, vl, vn⟩⟩ = M := by rw [← hM, under, underOk, hL, hY]; rfl
  have hs5 := (styOk_parts hY).1
  clear hM
  go_enter Try.func15, Try.ntmps15
  go_wp2_with (first | (go_at_call 28; refine (plus_post (mayLook_calls _ _ _ _ _ _ _ _ _ _)).mono ?_; rintro e w' ⟨rfl, nx, rfl⟩) | (go_at_call 29; refine (plus_post (rmay_calls _ _ _ _ _ _ _ _ _ _ _ _ _ _ hB _)).mono ?_; rintro e w' ⟨rfl, nx, rfl⟩) | (go_at_call 30; refine (plus_post (made_calls _ _ _ _ _ _ _ _ _ _ _ _ _ _ _ _ _ _ _ _ _ _ _ _ _ _ _ _ hs5 _)).mono ?_; rintro e w' ⟨rfl, nx, rfl⟩))
  exact bodyPost_ret (v := .tuple #[.agg #[.int .u8 M.l.r, .int .u8 M.l.g, .int .u8 M.l.b, .int .u8 M.l.a, .int .i64 M.l.tx, .int .u8 M.l.cu, .int .i64 M.l.bi, .bool M.l.bl, .int .i64 M.l.bn, .bool M.k0, .bool M.k1, .bool M.k2, .bool M.k3, .bool M.k4], .int .i64 0]) (by simp [results, Try.results15, go_sem, ↓IntWalk.iteOmega]) rfl ⟨rfl, by with_reducible repeat (first | exact Below.refl _ _ | apply ba | apply bp | apply bd | apply bn)⟩

set_option maxRecDepth 100000 in
set_option maxHeartbeats 8000000 in
theorem ralong_calls (ao : Option Addr) (n cap : Nat) (l : List Sy) (w : World) (hn : n ≤ 9223372036854775807) (hl : Lay fSy w ao n l) (hB : ∀ k, k < n → SyB (nth sy0 l k)) :
    Calls Try.prog 20 #[.slice ao n cap] w fun e w' => e = .returned (.tuple #[.agg #[.int .u8 ((along l)).r, .int .u8 ((along l)).g, .int .u8 ((along l)).b, .int .u8 ((along l)).a, .int .i64 ((along l)).tx, .int .u8 ((along l)).cu, .int .i64 ((along l)).bi, .bool ((along l)).bl, .int .i64 ((along l)).bn], .int .i64 (alongErr l)]) ∧ Below w.heap.size w w' := by
  have hlen := hl.len
  by_cases hm : 128 < n
  · have im : (128 : Int) < (n : Int) := by omega
    rw [show along l = lk0 by rw [along, if_pos (by omega)], show alongErr l = 4 by rw [alongErr, if_pos (by omega)]]
    clear hl hB hlen
    go_enter Try.func20, Try.ntmps20
    go_wp2
    exact bodyPost_ret (v := .tuple #[.agg #[.int .u8 0, .int .u8 0, .int .u8 0, .int .u8 0, .int .i64 0, .int .u8 0, .int .i64 0, .bool false, .int .i64 0], .int .i64 4]) (by simp [lk0, results, Try.results20, go_sem, ↓IntWalk.iteOmega]) rfl ⟨by simp [lk0], by with_reducible repeat (first | exact Below.refl _ _ | apply ba | apply bp | apply bd | apply bn)⟩
  have im : ¬ (128 : Int) < (n : Int) := by omega
  have eA : along l = if alongOk l then (runTo l n).l else lk0 := by rw [along, if_neg (by omega), hlen]
  have eE : alongErr l = if alongOk l then 0 else 8 := by rw [alongErr, if_neg (by omega)]
  rw [eA, eE]
  clear eA eE
  go_enter Try.func20, Try.ntmps20
  go_wp2_with (go_at_call 19; refine (plus_post (rbegin_calls _)).mono ?_; rintro e w' ⟨rfl, nx, rfl⟩)
  go_loopw [5] (fun i wr => ∃ k : Nat, k ≤ n ∧ i = .int .i64 k ∧ (∀ j, j < k → styOk (nth sy0 l j) = true) ∧ ∃ x, wr = plus ((plus (w.alloc (.cells #[.int .u8 0, .int .u8 0, .int .u8 0, .int .u8 0, .int .i64 0, .int .u8 0, .int .i64 0, .bool false, .int .i64 0] 25)) nx).alloc (.cells #[.int .u8 ((runTo l k).l).r, .int .u8 ((runTo l k).l).g, .int .u8 ((runTo l k).l).b, .int .u8 ((runTo l k).l).a, .int .i64 ((runTo l k).l).tx, .int .u8 ((runTo l k).l).cu, .int .i64 ((runTo l k).l).bi, .bool ((runTo l k).l).bl, .int .i64 ((runTo l k).l).bn, .bool ((runTo l k)).k0, .bool ((runTo l k)).k1, .bool ((runTo l k)).k2, .bool ((runTo l k)).k3, .bool ((runTo l k)).k4] 39)) x) (fun i _ => n - (intOf i).toNat)
  case atStart => exact ⟨0, Nat.zero_le _, rfl, fun j hj => by omega, by simp only [runTo, ihW, lkW]; exact (by with_reducible repeat (first | exact ex_refl _ | exact ex_more | apply ex_alloc | apply ex_plus | apply ex_drew | apply ex_drewN))⟩
  case round =>
    obtain ⟨k, hk, rfl, hs, x, rfl⟩ := hrel
    by_cases hkl : k < n
    · have ik : (k : Int) < (n : Int) := by omega
      obtain ⟨g, off, rfl, hg, hc⟩ := hl.some (by omega)
      obtain ⟨c0, c1, c2, c3, c4, c5, c6, c7, c8, c9, c10, c11, c12, c13⟩ := cellSy hlen hc hkl
      have hb := hB k hkl
      obtain ⟨J, hJ⟩ : ∃ J, runTo l k = J := ⟨_, rfl⟩
      rw [hJ]
      obtain ⟨Y, hY⟩ : ∃ Y, nth sy0 l k = Y := ⟨_, rfl⟩
      rw [hY] at hb c0 c1 c2 c3 c4 c5 c6 c7 c8 c9 c10 c11 c12 c13
      obtain ⟨s0, s1, s2, s3, s4, ⟨vr, vg, vb, va, vt, vc, vi, vl, vn⟩⟩ := Y
      obtain ⟨⟨jr, jg, jb, ja, jt, jc, ji, jl, jn⟩, j0, j1, j2, j3, j4⟩ := J
      simp only at c0 c1 c2 c3 c4 c5 c6 c7 c8 c9 c10 c11 c12 c13
      simp only
      cases ho : styOk ⟨s0, s1, s2, s3, s4, ⟨vr, vg, vb, va, vt, vc, vi, vl, vn⟩⟩
      · have e3 : alongOk l = false := not_ok (k := k) (by omega) (by rw [hY]; exact ho)
        clear hl hB hc hJ hs hk
        go_wp2_with (go_at_call 29; refine (plus_of (rmay_calls _ _ _ _ _ _ _ _ _ _ _ _ _ _ hb _)).mono ?_; rintro e w' ⟨rfl, ny, rfl⟩; simp only [ho])
        all_goals exact bodyPost_ret (v := .tuple #[.agg #[.int .u8 0, .int .u8 0, .int .u8 0, .int .u8 0, .int .i64 0, .int .u8 0, .int .i64 0, .bool false, .int .i64 0], .int .i64 8]) (by simp [results, Try.results20, go_sem, ↓IntWalk.iteOmega]) rfl ⟨by first | rfl | (rw [e3]; rfl), by with_reducible repeat (first | exact Below.refl _ _ | apply ba | apply bp | apply bd | apply bn)⟩
      · obtain ⟨M, hM⟩ : ∃ M, made ⟨⟨jr, jg, jb, ja, jt, jc, ji, jl, jn⟩, j0, j1, j2, j3, j4⟩ ⟨s0, s1, s2, s3, s4, ⟨vr, vg, vb, va, vt, vc, vi, vl, vn⟩⟩ = M := ⟨_, rfl⟩
        have e3 : runTo l (k + 1) = M := by rw [← hM, ← hJ, ← hY]; rfl
        have hs' := upto_ok hs (by rw [hY]; exact ho)
        have hs5 := (styOk_parts ho).1
        clear hl hB hc hJ hs
        go_wp2_with (go_at_call 29; refine (plus_of (rmay_calls _ _ _ _ _ _ _ _ _ _ _ _ _ _ hb _)).mono ?_; rintro e w' ⟨rfl, ny, rfl⟩; simp only [ho])
        refine region_tail 6 (by kernel_rfl) (by kernel_rfl) ?_
        simp only [List.take_succ_cons, List.take_zero, List.drop_succ_cons, List.drop_zero]
        (repeat (go_big_quiet_step ((go_at_call 30; exact plus_of (made_calls _ _ _ _ _ _ _ _ _ _ _ _ _ _ _ _ _ _ _ _ _ _ _ _ _ _ _ _ hs5 _)))))
        refine wpQuiet_nil ?_
        rintro _ ⟨x2, rfl⟩
        simp only [hM]
        go_wp2
        go_roundw
        case rel => exact ⟨k + 1, by omega, by go_num, hs', by rw [e3]; exact (by with_reducible repeat (first | exact ex_refl _ | exact ex_more | apply ex_alloc | apply ex_plus | apply ex_drew | apply ex_drewN))⟩
        case measure => simp [intOf]; omega
    · have ik : ¬ (k : Int) < (n : Int) := by omega
      obtain rfl : k = n := by omega
      have e3 : alongOk l = true := all_ok (by rw [hlen]; exact hs)
      clear hl hB
      go_wp2
      exact bodyPost_ret (v := .tuple #[.agg #[.int .u8 ((runTo l k).l).r, .int .u8 ((runTo l k).l).g, .int .u8 ((runTo l k).l).b, .int .u8 ((runTo l k).l).a, .int .i64 ((runTo l k).l).tx, .int .u8 ((runTo l k).l).cu, .int .i64 ((runTo l k).l).bi, .bool ((runTo l k).l).bl, .int .i64 ((runTo l k).l).bn], .int .i64 0]) (by simp [results, Try.results20, go_sem, ↓IntWalk.iteOmega]) rfl ⟨by first | rfl | (rw [e3]; rfl), by with_reducible repeat (first | exact Below.refl _ _ | apply ba | apply bp | apply bd | apply bn)⟩

end Go.Proofs.Ythcplebmffbmpaa
