/- StatesWin is proved: for every list of styles (of more than 128 nothing is said): of each thing whose value it has is told by the last one that is free, the first one over all below behind it, or the last one that says it. -/
import Derived.Test.YthcplebmffbmpaaRows
import Derived.Test.YthcplebmffbmpaaLaw
import Derived.Test.YthcplebmffbmpaaStA
import Derived.Test.YthcplebmffbmpaaStB
import Derived.Test.YthcplebmffbmpaaStT
import Derived.Test.YthcplebmffbmpaaStW
namespace Go.Proofs.Ythcplebmffbmpaa
open Go.RowKit Go.ChangeShapes Go.WideShapes Go.ChangeAt
set_option linter.unusedSimpArgs false
set_option linter.unusedVariables false
attribute [local go_sem] plus_size plus_drew dn_set dn_alloc dn_plus plus_dn cell_plus frozen_plus set_plus cell_alloc frozen_alloc set_alloc

attribute [local go_sem] eq4_refl eq5_refl

attribute [local go_sem] col_22

attribute [local go_sem] col_23

attribute [local go_sem] col9_22

attribute [local go_sem] col9_23

attribute [local go_sem] col8_22

attribute [local go_sem] col8_23

attribute [local go_sem] kep_37

attribute [local go_sem] kep9_37

attribute [local go_sem] kep8_37

attribute [local go_sem] larr_29

attribute [local go_sem] larr_53

@[local go_sem] theorem fld_39 (b0 b1 b2 b3 b4 b5 b6 b7 b8 b9 b10 b11 b12 b13 : Value) (w : World) : (Instr.field 39 (.agg #[b0, b1, b2, b3, b4, b5, b6, b7, b8, b9, b10, b11, b12, b13]) 0).run Try.prog w = .ok (.agg #[b0, b1, b2, b3, b4, b5, b6, b7, b8]) w := by kernel_rfl

theorem said_at {l : List Sy} (h : alongOk l = true) : Said (y0 l) l.length ∧ Said (y1 l) l.length ∧ Said (y2 l) l.length ∧ Said (y3 l) l.length ∧ Said (y4 l) l.length := by
  have a := fun j hj => saysOk_iff.1 (styOk_parts (ok_at h j hj)).1
  exact ⟨fun j hj => sayOk_iff.1 (a j hj).1, fun j hj => sayOk_iff.1 (a j hj).2.1, fun j hj => sayOk_iff.1 (a j hj).2.2.1, fun j hj => sayOk_iff.1 (a j hj).2.2.2.1, fun j hj => sayOk_iff.1 (a j hj).2.2.2.2⟩
theorem look0_calls (ur ug ub ua ut uc ui : Int) (ul : Bool) (un : Int) (w : World) (h : lookOk ⟨ur, ug, ub, ua, ut, uc, ui, ul, un⟩ = true) : Calls Try.prog 13 #[.agg #[.int .u8 ur, .int .u8 ug, .int .u8 ub, .int .u8 ua, .int .i64 ut, .int .u8 uc, .int .i64 ui, .bool ul, .int .i64 un]] w fun e w' => e = .returned (.int .i64 0) ∧ Below w.heap.size w w' := by
  have e := look_calls ur ug ub ua ut uc ui ul un w
  rwa [show lookErr ⟨ur, ug, ub, ua, ut, uc, ui, ul, un⟩ = 0 by rw [lookErr, h]; rfl] at e
theorem beginW_calls (w : World) : Calls Try.prog 18 #[] w fun e w' => e = .returned (.agg #[.int .u8 255, .int .u8 255, .int .u8 255, .int .u8 255, .int .i64 (-1), .int .u8 0, .int .i64 0, .bool false, .int .i64 0, .bool false, .bool false, .bool false, .bool false, .bool false]) ∧ Below w.heap.size w w' := begin_calls w

set_option maxRecDepth 100000 in
set_option maxHeartbeats 8000000 in
theorem statesWin_walk (ao : Option Addr) (n cap : Nat) (l : List Sy) (w : World) (hn : n ≤ 9223372036854775807) (hl : Lay fSy w ao n l) (hB : ∀ k, k < n → SyB (nth sy0 l k)) :
    Calls Try.prog 6 #[.slice ao n cap] w fun e w' => e = .returned (.bool true) ∧ Below w.heap.size w w' := by
  have hlen := hl.len
  by_cases hm : 128 < n
  · have im : (128 : Int) < (n : Int) := by omega
    go_enter Try.func6, Try.ntmps6
    go_wp2_with (go_at_call 11; refine (plus_in (T := w) (by with_reducible repeat (first | exact ex_refl _ | exact ex_more | apply ex_alloc | apply ex_plus | apply ex_drew | apply ex_drewN)) (alive_calls _)).mono ?_; rintro e w' ⟨rfl, nx, rfl⟩)
    go_ret
    exact ⟨rfl, by with_reducible repeat (first | exact Below.refl _ _ | apply ba | apply bp | apply bd | apply bn)⟩
  have im : ¬ (128 : Int) < (n : Int) := by omega
  cases hO : alongOk l
  · have hM : along l = lk0 := by rw [along, if_neg (by omega), hO]; rfl
    have hE : alongErr l = 8 := by rw [alongErr, if_neg (by omega), hO]; rfl
    go_enter Try.func6, Try.ntmps6
    go_wp2_with (first | (go_at_call 11; refine (plus_in (T := w) (by with_reducible repeat (first | exact ex_refl _ | exact ex_more | apply ex_alloc | apply ex_plus | apply ex_drew | apply ex_drewN)) (alive_calls _)).mono ?_; rintro e w' ⟨rfl, nx, rfl⟩) | (go_at_call 8; refine (plus_in (T := w) (by with_reducible repeat (first | exact ex_refl _ | exact ex_more | apply ex_alloc | apply ex_plus | apply ex_drew | apply ex_drewN)) (along_calls _ _ _ l _ hn (hl.ex (by with_reducible repeat (first | exact ex_refl _ | exact ex_more | apply ex_alloc | apply ex_plus | apply ex_drew | apply ex_drewN))) hB)).mono ?_; rintro e w' ⟨rfl, n1, rfl⟩; simp only [hM, hE]))
    go_ret
    exact ⟨rfl, by with_reducible repeat (first | exact Below.refl _ _ | apply ba | apply bp | apply bd | apply bn)⟩
  have hE : alongErr l = 0 := by rw [alongErr, if_neg (by omega), hO]; rfl
  obtain ⟨q0, q1, q2, q3, q4⟩ := said_at hO
  rw [hlen] at q0 q1 q2 q3 q4
  have hok := ok_at hO
  rw [hlen] at hok
  have hX : along l = (runTo l n).l := by rw [along, if_neg (by omega), hO, hlen]; rfl
  have hxk := run_look hok n (Nat.le_refl n)
  have hxb := run_bound hB n (Nat.le_refl n)
  have w0 := (run_win0 l n).2
  have w1 := (run_win1 l n).2
  have w2 := (run_win2 l n).2
  have w3 := (run_win3 l n).2
  have w4 := (run_win4 l n).2
  rw [← hX] at hxk hxb w0 w1 w2 w3 w4
  obtain ⟨M, hM⟩ : ∃ M, along l = M := ⟨_, rfl⟩
  rw [hM] at hxk hxb w0 w1 w2 w3 w4
  obtain ⟨xr, xg, xb, xa, xt, xc, xi, xl, xn⟩ := M
  simp only at w0 w1 w2 w3 w4
  replace w0 := Hid.mk w0
  replace w1 := Hid.mk w1
  replace w2 := Hid.mk w2
  replace w3 := Hid.mk w3
  replace w4 := Hid.mk w4
  clear hX hok hO
  go_enter Try.func6, Try.ntmps6
  go_wp2_with (first | (go_at_call 11; refine (plus_in (T := w) (by with_reducible repeat (first | exact ex_refl _ | exact ex_more | apply ex_alloc | apply ex_plus | apply ex_drew | apply ex_drewN)) (alive_calls _)).mono ?_; rintro e w' ⟨rfl, nx, rfl⟩) | (go_at_call 8; refine (plus_in (T := w) (by with_reducible repeat (first | exact ex_refl _ | exact ex_more | apply ex_alloc | apply ex_plus | apply ex_drew | apply ex_drewN)) (along_calls _ _ _ l _ hn (hl.ex (by with_reducible repeat (first | exact ex_refl _ | exact ex_more | apply ex_alloc | apply ex_plus | apply ex_drew | apply ex_drewN))) hB)).mono ?_; rintro e w' ⟨rfl, n1, rfl⟩; simp only [hM, hE]))
  clear hM hE
  refine st_world (fun T => (∃ y, T = plus w y) ∧ w.heap.size + (blocks n1).size < T.heap.size ∧ T.cell? ⟨w.heap.size + (blocks n1).size, 0, none⟩ = some (.int .u8 xr) ∧ T.cell? ⟨w.heap.size + (blocks n1).size, 1, none⟩ = some (.int .u8 xg) ∧ T.cell? ⟨w.heap.size + (blocks n1).size, 2, none⟩ = some (.int .u8 xb) ∧ T.cell? ⟨w.heap.size + (blocks n1).size, 3, none⟩ = some (.int .u8 xa) ∧ T.cell? ⟨w.heap.size + (blocks n1).size, 4, none⟩ = some (.int .i64 xt) ∧ T.cell? ⟨w.heap.size + (blocks n1).size, 5, none⟩ = some (.int .u8 xc) ∧ T.cell? ⟨w.heap.size + (blocks n1).size, 6, none⟩ = some (.int .i64 xi) ∧ T.cell? ⟨w.heap.size + (blocks n1).size, 7, none⟩ = some (.bool xl) ∧ T.cell? ⟨w.heap.size + (blocks n1).size, 8, none⟩ = some (.int .i64 xn)) ⟨(by with_reducible repeat (first | exact ex_refl _ | exact ex_more | apply ex_alloc | apply ex_plus | apply ex_drew | apply ex_drewN)), (by simp [go_sem]; try omega), (by simp [go_sem, ↓IntWalk.iteOmega]), (by simp [go_sem, ↓IntWalk.iteOmega]), (by simp [go_sem, ↓IntWalk.iteOmega]), (by simp [go_sem, ↓IntWalk.iteOmega]), (by simp [go_sem, ↓IntWalk.iteOmega]), (by simp [go_sem, ↓IntWalk.iteOmega]), (by simp [go_sem, ↓IntWalk.iteOmega]), (by simp [go_sem, ↓IntWalk.iteOmega]), (by simp [go_sem, ↓IntWalk.iteOmega])⟩ ?_
  rintro T ⟨hT, hz0, x0_0, x0_1, x0_2, x0_3, x0_4, x0_5, x0_6, x0_7, x0_8⟩
  generalize w.heap.size + (blocks n1).size = A at *
  replace hl := hl.ex hT
  go_loopw [6] (fun iv wr => ∃ (k : Nat) (kv : Int), k ≤ 5 ∧ kv = k ∧ iv = .int .i64 kv ∧ ∃ x, wr = plus T x) (fun iv _ => 5 - (intOf iv).toNat)
  case atStart => exact ⟨0, 0, by omega, rfl, rfl, (by with_reducible repeat (first | exact ex_refl _ | exact ex_more | apply ex_alloc | apply ex_plus | apply ex_drew | apply ex_drewN))⟩
  case round =>
    obtain ⟨k, kv, hk, hkv, rfl, x, rfl⟩ := hrel
    rcases (show k = 0 ∨ k = 1 ∨ k = 2 ∨ k = 3 ∨ k = 4 ∨ k = 5 by omega) with rfl | rfl | rfl | rfl | rfl | rfl
    · obtain rfl : kv = 0 := by omega
      clear hk hkv
      replace w0 := w0.out
      rcases win_range (y0 l) n with hw | ⟨p, hw, hp⟩
      · rw [hw, whoL_none] at w0
        simp only [lkW] at w0
        obtain ⟨rfl, rfl, rfl, rfl⟩ := w0
        go_wp2_with (first | (go_at_call 21; refine (plus_in (T := T) (by with_reducible repeat (first | exact ex_refl _ | exact ex_more | apply ex_alloc | apply ex_plus | apply ex_drew | apply ex_drewN)) (whose0_calls _ _ _ l _ (by omega) (hl.ex (by with_reducible repeat (first | exact ex_refl _ | exact ex_more | apply ex_alloc | apply ex_plus | apply ex_drew | apply ex_drewN))) q0)).mono ?_; rintro e w' ⟨rfl, ny, rfl⟩; simp only [hw]) | (go_at_call 18; refine (plus_in (T := T) (by with_reducible repeat (first | exact ex_refl _ | exact ex_more | apply ex_alloc | apply ex_plus | apply ex_drew | apply ex_drewN)) (beginW_calls _)).mono ?_; rintro e w' ⟨rfl, nz, rfl⟩) | (go_at_call 22; refine (plus_post (thing0_calls _ _ _ _ _ _ _ _ _ (by first | exact lkW_bound | exact hxb | exact hvb) _)).mono ?_; rintro e w' ⟨rfl, nx, rfl⟩))
        refine region_plus (by kernel_rfl) (by kernel_rfl) ?_
        (repeat (go_big_quiet_step ((go_at_call 22; exact plus_of (thing0_calls _ _ _ _ _ _ _ _ _ (by first | exact hxb | exact hvb) _)))))
        refine wpQuiet_nil ?_
        rintro _ ⟨x2, rfl⟩
        go_wp2
        go_roundw
        case rel => exact ⟨1, 1, by omega, rfl, by go_num, (by with_reducible repeat (first | exact ex_refl _ | exact ex_more | apply ex_alloc | apply ex_plus | apply ex_drew | apply ex_drewN))⟩
        case measure => simp [intOf]
      · rw [hw, whoL_at] at w0
        have ip : (p : Int) < (n : Int) := by omega
        have ip0 : (0 : Int) ≤ (p : Int) := by omega
        obtain ⟨g, off, rfl, hg, hc⟩ := hl.some (by omega)
        obtain ⟨c0, c1, c2, c3, c4, c5, c6, c7, c8, c9, c10, c11, c12, c13⟩ := cellSy hlen hc hp
        have hvb := (hB p hp).l
        obtain ⟨Y, hY⟩ : ∃ Y, nth sy0 l p = Y := ⟨_, rfl⟩
        rw [hY] at hvb w0 c0 c1 c2 c3 c4 c5 c6 c7 c8 c9 c10 c11 c12 c13
        obtain ⟨s0, s1, s2, s3, s4, ⟨vr, vg, vb, va, vt, vc, vi, vl, vn⟩⟩ := Y
        simp only at w0 c0 c1 c2 c3 c4 c5 c6 c7 c8 c9 c10 c11 c12 c13
        obtain ⟨rfl, rfl, rfl, rfl⟩ := w0
        go_wp2_with (first | (go_at_call 21; refine (plus_in (T := T) (by with_reducible repeat (first | exact ex_refl _ | exact ex_more | apply ex_alloc | apply ex_plus | apply ex_drew | apply ex_drewN)) (whose0_calls _ _ _ l _ (by omega) (hl.ex (by with_reducible repeat (first | exact ex_refl _ | exact ex_more | apply ex_alloc | apply ex_plus | apply ex_drew | apply ex_drewN))) q0)).mono ?_; rintro e w' ⟨rfl, ny, rfl⟩; simp only [hw]) | (go_at_call 18; refine (plus_in (T := T) (by with_reducible repeat (first | exact ex_refl _ | exact ex_more | apply ex_alloc | apply ex_plus | apply ex_drew | apply ex_drewN)) (beginW_calls _)).mono ?_; rintro e w' ⟨rfl, nz, rfl⟩) | (go_at_call 22; refine (plus_post (thing0_calls _ _ _ _ _ _ _ _ _ (by first | exact lkW_bound | exact hxb | exact hvb) _)).mono ?_; rintro e w' ⟨rfl, nx, rfl⟩))
        refine region_plus (by kernel_rfl) (by kernel_rfl) ?_
        (repeat (go_big_quiet_step ((go_at_call 22; exact plus_of (thing0_calls _ _ _ _ _ _ _ _ _ (by first | exact hxb | exact hvb) _)))))
        refine wpQuiet_nil ?_
        rintro _ ⟨x2, rfl⟩
        go_wp2
        go_roundw
        case rel => exact ⟨1, 1, by omega, rfl, by go_num, (by with_reducible repeat (first | exact ex_refl _ | exact ex_more | apply ex_alloc | apply ex_plus | apply ex_drew | apply ex_drewN))⟩
        case measure => simp [intOf]
    · obtain rfl : kv = 1 := by omega
      clear hk hkv
      replace w1 := w1.out
      rcases win_range (y1 l) n with hw | ⟨p, hw, hp⟩
      · rw [hw, whoL_none] at w1
        simp only [lkW] at w1
        obtain rfl := w1
        go_wp2_with (first | (go_at_call 21; refine (plus_in (T := T) (by with_reducible repeat (first | exact ex_refl _ | exact ex_more | apply ex_alloc | apply ex_plus | apply ex_drew | apply ex_drewN)) (whose1_calls _ _ _ l _ (by omega) (hl.ex (by with_reducible repeat (first | exact ex_refl _ | exact ex_more | apply ex_alloc | apply ex_plus | apply ex_drew | apply ex_drewN))) q1)).mono ?_; rintro e w' ⟨rfl, ny, rfl⟩; simp only [hw]) | (go_at_call 18; refine (plus_in (T := T) (by with_reducible repeat (first | exact ex_refl _ | exact ex_more | apply ex_alloc | apply ex_plus | apply ex_drew | apply ex_drewN)) (beginW_calls _)).mono ?_; rintro e w' ⟨rfl, nz, rfl⟩) | (go_at_call 22; refine (plus_post (thing1_calls _ _ _ _ _ _ _ _ _ (by first | exact lkW_bound | exact hxb | exact hvb) _)).mono ?_; rintro e w' ⟨rfl, nx, rfl⟩))
        refine region_plus (by kernel_rfl) (by kernel_rfl) ?_
        (repeat (go_big_quiet_step ((go_at_call 22; exact plus_of (thing1_calls _ _ _ _ _ _ _ _ _ (by first | exact hxb | exact hvb) _)))))
        refine wpQuiet_nil ?_
        rintro _ ⟨x2, rfl⟩
        go_wp2
        go_roundw
        case rel => exact ⟨2, 2, by omega, rfl, by go_num, (by with_reducible repeat (first | exact ex_refl _ | exact ex_more | apply ex_alloc | apply ex_plus | apply ex_drew | apply ex_drewN))⟩
        case measure => simp [intOf]
      · rw [hw, whoL_at] at w1
        have ip : (p : Int) < (n : Int) := by omega
        have ip0 : (0 : Int) ≤ (p : Int) := by omega
        obtain ⟨g, off, rfl, hg, hc⟩ := hl.some (by omega)
        obtain ⟨c0, c1, c2, c3, c4, c5, c6, c7, c8, c9, c10, c11, c12, c13⟩ := cellSy hlen hc hp
        have hvb := (hB p hp).l
        obtain ⟨Y, hY⟩ : ∃ Y, nth sy0 l p = Y := ⟨_, rfl⟩
        rw [hY] at hvb w1 c0 c1 c2 c3 c4 c5 c6 c7 c8 c9 c10 c11 c12 c13
        obtain ⟨s0, s1, s2, s3, s4, ⟨vr, vg, vb, va, vt, vc, vi, vl, vn⟩⟩ := Y
        simp only at w1 c0 c1 c2 c3 c4 c5 c6 c7 c8 c9 c10 c11 c12 c13
        obtain rfl := w1
        go_wp2_with (first | (go_at_call 21; refine (plus_in (T := T) (by with_reducible repeat (first | exact ex_refl _ | exact ex_more | apply ex_alloc | apply ex_plus | apply ex_drew | apply ex_drewN)) (whose1_calls _ _ _ l _ (by omega) (hl.ex (by with_reducible repeat (first | exact ex_refl _ | exact ex_more | apply ex_alloc | apply ex_plus | apply ex_drew | apply ex_drewN))) q1)).mono ?_; rintro e w' ⟨rfl, ny, rfl⟩; simp only [hw]) | (go_at_call 18; refine (plus_in (T := T) (by with_reducible repeat (first | exact ex_refl _ | exact ex_more | apply ex_alloc | apply ex_plus | apply ex_drew | apply ex_drewN)) (beginW_calls _)).mono ?_; rintro e w' ⟨rfl, nz, rfl⟩) | (go_at_call 22; refine (plus_post (thing1_calls _ _ _ _ _ _ _ _ _ (by first | exact lkW_bound | exact hxb | exact hvb) _)).mono ?_; rintro e w' ⟨rfl, nx, rfl⟩))
        refine region_plus (by kernel_rfl) (by kernel_rfl) ?_
        (repeat (go_big_quiet_step ((go_at_call 22; exact plus_of (thing1_calls _ _ _ _ _ _ _ _ _ (by first | exact hxb | exact hvb) _)))))
        refine wpQuiet_nil ?_
        rintro _ ⟨x2, rfl⟩
        go_wp2
        go_roundw
        case rel => exact ⟨2, 2, by omega, rfl, by go_num, (by with_reducible repeat (first | exact ex_refl _ | exact ex_more | apply ex_alloc | apply ex_plus | apply ex_drew | apply ex_drewN))⟩
        case measure => simp [intOf]
    · obtain rfl : kv = 2 := by omega
      clear hk hkv
      replace w2 := w2.out
      rcases win_range (y2 l) n with hw | ⟨p, hw, hp⟩
      · rw [hw, whoL_none] at w2
        simp only [lkW] at w2
        obtain rfl := w2
        go_wp2_with (first | (go_at_call 21; refine (plus_in (T := T) (by with_reducible repeat (first | exact ex_refl _ | exact ex_more | apply ex_alloc | apply ex_plus | apply ex_drew | apply ex_drewN)) (whose2_calls _ _ _ l _ (by omega) (hl.ex (by with_reducible repeat (first | exact ex_refl _ | exact ex_more | apply ex_alloc | apply ex_plus | apply ex_drew | apply ex_drewN))) q2)).mono ?_; rintro e w' ⟨rfl, ny, rfl⟩; simp only [hw]) | (go_at_call 18; refine (plus_in (T := T) (by with_reducible repeat (first | exact ex_refl _ | exact ex_more | apply ex_alloc | apply ex_plus | apply ex_drew | apply ex_drewN)) (beginW_calls _)).mono ?_; rintro e w' ⟨rfl, nz, rfl⟩) | (go_at_call 22; refine (plus_post (thing2_calls _ _ _ _ _ _ _ _ _ (by first | exact lkW_bound | exact hxb | exact hvb) _)).mono ?_; rintro e w' ⟨rfl, nx, rfl⟩))
        refine region_plus (by kernel_rfl) (by kernel_rfl) ?_
        (repeat (go_big_quiet_step ((go_at_call 22; exact plus_of (thing2_calls _ _ _ _ _ _ _ _ _ (by first | exact hxb | exact hvb) _)))))
        refine wpQuiet_nil ?_
        rintro _ ⟨x2, rfl⟩
        go_wp2
        go_roundw
        case rel => exact ⟨3, 3, by omega, rfl, by go_num, (by with_reducible repeat (first | exact ex_refl _ | exact ex_more | apply ex_alloc | apply ex_plus | apply ex_drew | apply ex_drewN))⟩
        case measure => simp [intOf]
      · rw [hw, whoL_at] at w2
        have ip : (p : Int) < (n : Int) := by omega
        have ip0 : (0 : Int) ≤ (p : Int) := by omega
        obtain ⟨g, off, rfl, hg, hc⟩ := hl.some (by omega)
        obtain ⟨c0, c1, c2, c3, c4, c5, c6, c7, c8, c9, c10, c11, c12, c13⟩ := cellSy hlen hc hp
        have hvb := (hB p hp).l
        obtain ⟨Y, hY⟩ : ∃ Y, nth sy0 l p = Y := ⟨_, rfl⟩
        rw [hY] at hvb w2 c0 c1 c2 c3 c4 c5 c6 c7 c8 c9 c10 c11 c12 c13
        obtain ⟨s0, s1, s2, s3, s4, ⟨vr, vg, vb, va, vt, vc, vi, vl, vn⟩⟩ := Y
        simp only at w2 c0 c1 c2 c3 c4 c5 c6 c7 c8 c9 c10 c11 c12 c13
        obtain rfl := w2
        go_wp2_with (first | (go_at_call 21; refine (plus_in (T := T) (by with_reducible repeat (first | exact ex_refl _ | exact ex_more | apply ex_alloc | apply ex_plus | apply ex_drew | apply ex_drewN)) (whose2_calls _ _ _ l _ (by omega) (hl.ex (by with_reducible repeat (first | exact ex_refl _ | exact ex_more | apply ex_alloc | apply ex_plus | apply ex_drew | apply ex_drewN))) q2)).mono ?_; rintro e w' ⟨rfl, ny, rfl⟩; simp only [hw]) | (go_at_call 18; refine (plus_in (T := T) (by with_reducible repeat (first | exact ex_refl _ | exact ex_more | apply ex_alloc | apply ex_plus | apply ex_drew | apply ex_drewN)) (beginW_calls _)).mono ?_; rintro e w' ⟨rfl, nz, rfl⟩) | (go_at_call 22; refine (plus_post (thing2_calls _ _ _ _ _ _ _ _ _ (by first | exact lkW_bound | exact hxb | exact hvb) _)).mono ?_; rintro e w' ⟨rfl, nx, rfl⟩))
        refine region_plus (by kernel_rfl) (by kernel_rfl) ?_
        (repeat (go_big_quiet_step ((go_at_call 22; exact plus_of (thing2_calls _ _ _ _ _ _ _ _ _ (by first | exact hxb | exact hvb) _)))))
        refine wpQuiet_nil ?_
        rintro _ ⟨x2, rfl⟩
        go_wp2
        go_roundw
        case rel => exact ⟨3, 3, by omega, rfl, by go_num, (by with_reducible repeat (first | exact ex_refl _ | exact ex_more | apply ex_alloc | apply ex_plus | apply ex_drew | apply ex_drewN))⟩
        case measure => simp [intOf]
    · obtain rfl : kv = 3 := by omega
      clear hk hkv
      replace w3 := w3.out
      rcases win_range (y3 l) n with hw | ⟨p, hw, hp⟩
      · rw [hw, whoL_none] at w3
        simp only [lkW] at w3
        obtain rfl := w3
        go_wp2_with (first | (go_at_call 21; refine (plus_in (T := T) (by with_reducible repeat (first | exact ex_refl _ | exact ex_more | apply ex_alloc | apply ex_plus | apply ex_drew | apply ex_drewN)) (whose3_calls _ _ _ l _ (by omega) (hl.ex (by with_reducible repeat (first | exact ex_refl _ | exact ex_more | apply ex_alloc | apply ex_plus | apply ex_drew | apply ex_drewN))) q3)).mono ?_; rintro e w' ⟨rfl, ny, rfl⟩; simp only [hw]) | (go_at_call 18; refine (plus_in (T := T) (by with_reducible repeat (first | exact ex_refl _ | exact ex_more | apply ex_alloc | apply ex_plus | apply ex_drew | apply ex_drewN)) (beginW_calls _)).mono ?_; rintro e w' ⟨rfl, nz, rfl⟩) | (go_at_call 22; refine (plus_post (thing3_calls _ _ _ _ _ _ _ _ _ (by first | exact lkW_bound | exact hxb | exact hvb) _)).mono ?_; rintro e w' ⟨rfl, nx, rfl⟩))
        refine region_plus (by kernel_rfl) (by kernel_rfl) ?_
        (repeat (go_big_quiet_step ((go_at_call 22; exact plus_of (thing3_calls _ _ _ _ _ _ _ _ _ (by first | exact hxb | exact hvb) _)))))
        refine wpQuiet_nil ?_
        rintro _ ⟨x2, rfl⟩
        go_wp2
        go_roundw
        case rel => exact ⟨4, 4, by omega, rfl, by go_num, (by with_reducible repeat (first | exact ex_refl _ | exact ex_more | apply ex_alloc | apply ex_plus | apply ex_drew | apply ex_drewN))⟩
        case measure => simp [intOf]
      · rw [hw, whoL_at] at w3
        have ip : (p : Int) < (n : Int) := by omega
        have ip0 : (0 : Int) ≤ (p : Int) := by omega
        obtain ⟨g, off, rfl, hg, hc⟩ := hl.some (by omega)
        obtain ⟨c0, c1, c2, c3, c4, c5, c6, c7, c8, c9, c10, c11, c12, c13⟩ := cellSy hlen hc hp
        have hvb := (hB p hp).l
        obtain ⟨Y, hY⟩ : ∃ Y, nth sy0 l p = Y := ⟨_, rfl⟩
        rw [hY] at hvb w3 c0 c1 c2 c3 c4 c5 c6 c7 c8 c9 c10 c11 c12 c13
        obtain ⟨s0, s1, s2, s3, s4, ⟨vr, vg, vb, va, vt, vc, vi, vl, vn⟩⟩ := Y
        simp only at w3 c0 c1 c2 c3 c4 c5 c6 c7 c8 c9 c10 c11 c12 c13
        obtain rfl := w3
        go_wp2_with (first | (go_at_call 21; refine (plus_in (T := T) (by with_reducible repeat (first | exact ex_refl _ | exact ex_more | apply ex_alloc | apply ex_plus | apply ex_drew | apply ex_drewN)) (whose3_calls _ _ _ l _ (by omega) (hl.ex (by with_reducible repeat (first | exact ex_refl _ | exact ex_more | apply ex_alloc | apply ex_plus | apply ex_drew | apply ex_drewN))) q3)).mono ?_; rintro e w' ⟨rfl, ny, rfl⟩; simp only [hw]) | (go_at_call 18; refine (plus_in (T := T) (by with_reducible repeat (first | exact ex_refl _ | exact ex_more | apply ex_alloc | apply ex_plus | apply ex_drew | apply ex_drewN)) (beginW_calls _)).mono ?_; rintro e w' ⟨rfl, nz, rfl⟩) | (go_at_call 22; refine (plus_post (thing3_calls _ _ _ _ _ _ _ _ _ (by first | exact lkW_bound | exact hxb | exact hvb) _)).mono ?_; rintro e w' ⟨rfl, nx, rfl⟩))
        refine region_plus (by kernel_rfl) (by kernel_rfl) ?_
        (repeat (go_big_quiet_step ((go_at_call 22; exact plus_of (thing3_calls _ _ _ _ _ _ _ _ _ (by first | exact hxb | exact hvb) _)))))
        refine wpQuiet_nil ?_
        rintro _ ⟨x2, rfl⟩
        go_wp2
        go_roundw
        case rel => exact ⟨4, 4, by omega, rfl, by go_num, (by with_reducible repeat (first | exact ex_refl _ | exact ex_more | apply ex_alloc | apply ex_plus | apply ex_drew | apply ex_drewN))⟩
        case measure => simp [intOf]
    · obtain rfl : kv = 4 := by omega
      clear hk hkv
      replace w4 := w4.out
      rcases win_range (y4 l) n with hw | ⟨p, hw, hp⟩
      · rw [hw, whoL_none] at w4
        simp only [lkW] at w4
        obtain ⟨rfl, rfl⟩ := w4
        go_wp2_with (first | (go_at_call 21; refine (plus_in (T := T) (by with_reducible repeat (first | exact ex_refl _ | exact ex_more | apply ex_alloc | apply ex_plus | apply ex_drew | apply ex_drewN)) (whose4_calls _ _ _ l _ (by omega) (hl.ex (by with_reducible repeat (first | exact ex_refl _ | exact ex_more | apply ex_alloc | apply ex_plus | apply ex_drew | apply ex_drewN))) q4)).mono ?_; rintro e w' ⟨rfl, ny, rfl⟩; simp only [hw]) | (go_at_call 18; refine (plus_in (T := T) (by with_reducible repeat (first | exact ex_refl _ | exact ex_more | apply ex_alloc | apply ex_plus | apply ex_drew | apply ex_drewN)) (beginW_calls _)).mono ?_; rintro e w' ⟨rfl, nz, rfl⟩) | (go_at_call 22; refine (plus_post (thing4_calls _ _ _ _ _ _ _ _ _ (by first | exact lkW_bound | exact hxb | exact hvb) _)).mono ?_; rintro e w' ⟨rfl, nx, rfl⟩))
        refine region_plus (by kernel_rfl) (by kernel_rfl) ?_
        (repeat (go_big_quiet_step ((go_at_call 22; exact plus_of (thing4_calls _ _ _ _ _ _ _ _ _ (by first | exact hxb | exact hvb) _)))))
        refine wpQuiet_nil ?_
        rintro _ ⟨x2, rfl⟩
        go_wp2
        go_roundw
        case rel => exact ⟨5, 5, by omega, rfl, by go_num, (by with_reducible repeat (first | exact ex_refl _ | exact ex_more | apply ex_alloc | apply ex_plus | apply ex_drew | apply ex_drewN))⟩
        case measure => simp [intOf]
      · rw [hw, whoL_at] at w4
        have ip : (p : Int) < (n : Int) := by omega
        have ip0 : (0 : Int) ≤ (p : Int) := by omega
        obtain ⟨g, off, rfl, hg, hc⟩ := hl.some (by omega)
        obtain ⟨c0, c1, c2, c3, c4, c5, c6, c7, c8, c9, c10, c11, c12, c13⟩ := cellSy hlen hc hp
        have hvb := (hB p hp).l
        obtain ⟨Y, hY⟩ : ∃ Y, nth sy0 l p = Y := ⟨_, rfl⟩
        rw [hY] at hvb w4 c0 c1 c2 c3 c4 c5 c6 c7 c8 c9 c10 c11 c12 c13
        obtain ⟨s0, s1, s2, s3, s4, ⟨vr, vg, vb, va, vt, vc, vi, vl, vn⟩⟩ := Y
        simp only at w4 c0 c1 c2 c3 c4 c5 c6 c7 c8 c9 c10 c11 c12 c13
        obtain ⟨rfl, rfl⟩ := w4
        cases xl
        all_goals
          go_wp2_with (first | (go_at_call 21; refine (plus_in (T := T) (by with_reducible repeat (first | exact ex_refl _ | exact ex_more | apply ex_alloc | apply ex_plus | apply ex_drew | apply ex_drewN)) (whose4_calls _ _ _ l _ (by omega) (hl.ex (by with_reducible repeat (first | exact ex_refl _ | exact ex_more | apply ex_alloc | apply ex_plus | apply ex_drew | apply ex_drewN))) q4)).mono ?_; rintro e w' ⟨rfl, ny, rfl⟩; simp only [hw]) | (go_at_call 18; refine (plus_in (T := T) (by with_reducible repeat (first | exact ex_refl _ | exact ex_more | apply ex_alloc | apply ex_plus | apply ex_drew | apply ex_drewN)) (beginW_calls _)).mono ?_; rintro e w' ⟨rfl, nz, rfl⟩) | (go_at_call 22; refine (plus_post (thing4_calls _ _ _ _ _ _ _ _ _ (by first | exact lkW_bound | exact hxb | exact hvb) _)).mono ?_; rintro e w' ⟨rfl, nx, rfl⟩))
          refine region_plus (by kernel_rfl) (by kernel_rfl) ?_
          (repeat (go_big_quiet_step ((go_at_call 22; exact plus_of (thing4_calls _ _ _ _ _ _ _ _ _ (by first | exact hxb | exact hvb) _)))))
          refine wpQuiet_nil ?_
          rintro _ ⟨x2, rfl⟩
          go_wp2
          go_roundw
          case rel => exact ⟨5, 5, by omega, rfl, by go_num, (by with_reducible repeat (first | exact ex_refl _ | exact ex_more | apply ex_alloc | apply ex_plus | apply ex_drew | apply ex_drewN))⟩
          case measure => simp [intOf]
    · obtain rfl : kv = 5 := by omega
      clear hk hkv
      go_wp2_with (go_at_call 13; refine (plus_in (T := T) (by with_reducible repeat (first | exact ex_refl _ | exact ex_more | apply ex_alloc | apply ex_plus | apply ex_drew | apply ex_drewN)) (look0_calls _ _ _ _ _ _ _ _ _ _ hxk)).mono ?_; rintro e w' ⟨rfl, nt, rfl⟩)
      go_ret
      exact ⟨rfl, st_below hT (by with_reducible repeat (first | exact ex_refl _ | exact ex_more | apply ex_alloc | apply ex_plus | apply ex_drew | apply ex_drewN))⟩

set_option maxRecDepth 100000 in
theorem statesWin_lifted (os : Os) (started : os.Started) (H : Type) (enc : TypeId × Value → H) :
    ReturnsInHanded {} Try.checked os 6 .any (Rows.statesWinSpec.pre6 enc Try.prog Try.f6 Rows.statesWinRow.domain false) (Rows.statesWinSpec.post enc Try.prog Try.f6 false true false false) := by
  refine returnsInHanded_of_change (C := Try.checked) own started (by kernel_rfl) Try.func6
    (ChangeSpec.witness6 (enc := enc) (C := Try.checked) false ⟨#[], #[.slice none 0 0], []⟩ 8 (by kernel_rfl) (by kernel_rfl) (by kernel_rfl) (by kernel_rfl)) ?_
  intro W base args ds gs before hval0 hW hcnd _
  have hval : ∀ (j : Nat) t v, Try.f6.params[j]? = some t → args[j]? = some v → Value.okWide Try.prog W .any base t v := hval0
  have hW' := hW
  obtain ⟨p, q, hA0, hV, rfl, hfz, hnd⟩ := hW
  have hA : DataW.TrodAll enc Try.prog W 0 (fun _ => true) true Try.f6.params.toList args.toList ds p := hA0
  rw [Try.params6] at hA hval
  obtain ⟨v0, vs0, d0, ds0, p0, q0, hargs, rfl, rfl, h0, r0⟩ := trodAll_cons hA
  obtain ⟨rfl, rfl, rfl⟩ := trodAll_nil r0
  obtain rfl : args = #[v0] := by cases args; simp_all
  obtain ⟨fu0, x0, hx0⟩ := slice_cell Try.underlying48 (hval 0 48 v0 rfl rfl) h0
  obtain ⟨ao0, n0, cap0, rfl, hn0, _, ho0⟩ := open_sl (c := 14) Try.underlying48 (by kernel_rfl) (by decide) hx0
  obtain ⟨l0, hl0, hk0⟩ := lay_styles (by kernel_rfl) ho0
  refine (statesWin_walk ao0 n0 cap0 l0  W hn0 hl0 hk0).mono fun e W' ⟨he, hb⟩ => ?_
  exact ⟨_, he, law_post laidOut Try.underlying4 rfl (by kernel_rfl) (by kernel_rfl) (fun ds h => match ds, h with | [_], _ => rfl) hW' hb⟩

theorem statesWin_holds : Rows.StatesWinSaid :=
  OpenClaim.holds_of_wide 6 Try.f6 rfl rfl rfl rfl rfl rfl rfl ⟨rfl, rfl, rfl, rfl, rfl⟩ rfl rfl rfl rfl rfl (by kernel_rfl) Try.func6 (by kernel_rfl)
    (of_decide_eq_true (by kernel_rfl)) (by unfold Func.isWrapper; first | (rw [if_pos (by decide +kernel)]; kernel_rfl) | (rw [if_neg (by decide +kernel)]; exact ⟨rfl, rfl⟩))
    (fun os started H enc _ => statesWin_lifted os started H enc)
#print axioms statesWin_holds
end Go.Proofs.Ythcplebmffbmpaa
