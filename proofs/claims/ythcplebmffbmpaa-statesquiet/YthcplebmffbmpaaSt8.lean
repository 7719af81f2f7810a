/- What states.Along gives. -/
import Derived.Test.YthcplebmffbmpaaSt5
import Derived.Test.YthcplebmffbmpaaStAlong
import Derived.Test.YthcplebmffbmpaaStOpen
namespace Go.Proofs.Ythcplebmffbmpaa
open Go.RowKit Go.ChangeShapes Go.WideShapes Go.ChangeAt
set_option linter.unusedSimpArgs false
set_option linter.unusedVariables false
attribute [local go_sem] plus_size plus_drew dn_set dn_alloc dn_plus plus_dn cell_plus frozen_plus set_plus cell_alloc frozen_alloc set_alloc

theorem plus_in {P : Program} {f : FuncId} {args : Array Value} {T W : World} {v : Value} (hW : ∃ x, W = plus T x)
    (h : Calls P f args W fun e w' => e = .returned v ∧ Below W.heap.size W w') : Calls P f args W fun e w' => e = .returned v ∧ ∃ y, w' = plus T y := by
  obtain ⟨x, rfl⟩ := hW
  exact plus_of h

set_option maxRecDepth 100000 in
set_option maxHeartbeats 8000000 in
theorem along_calls (ao : Option Addr) (n cap : Nat) (l : List Sy) (w : World) (hn : n ≤ 9223372036854775807) (hl : Lay fSy w ao n l) (hB : ∀ k, k < n → SyB (nth sy0 l k)) :
    Calls Try.prog 8 #[.slice ao n cap] w fun e w' => e = .returned (.tuple #[.agg #[.int .u8 ((along l)).r, .int .u8 ((along l)).g, .int .u8 ((along l)).b, .int .u8 ((along l)).a, .int .i64 ((along l)).tx, .int .u8 ((along l)).cu, .int .i64 ((along l)).bi, .bool ((along l)).bl, .int .i64 ((along l)).bn], .int .i64 (alongErr l)]) ∧ Below w.heap.size w w' := by
  have hlen := hl.len
  by_cases hm : 128 < n
  · have im : (128 : Int) < (n : Int) := by omega
    rw [show along l = lk0 by rw [along, if_pos (by omega)], show alongErr l = 4 by rw [alongErr, if_pos (by omega)]]
    clear hl hB hlen
    go_enter Try.func8, Try.ntmps8
    go_wp2
    exact bodyPost_ret (v := .tuple #[.agg #[.int .u8 0, .int .u8 0, .int .u8 0, .int .u8 0, .int .i64 0, .int .u8 0, .int .i64 0, .bool false, .int .i64 0], .int .i64 4]) (by simp [lk0, results, Try.results8, go_sem, ↓IntWalk.iteOmega]) rfl ⟨by simp [lk0], by with_reducible repeat (first | exact Below.refl _ _ | apply ba | apply bp | apply bd | apply bn)⟩
  have im : ¬ (128 : Int) < (n : Int) := by omega
  have eA : along l = if alongOk l then (runTo l n).l else lk0 := by rw [along, if_neg (by omega), hlen]
  have eE : alongErr l = if alongOk l then 0 else 8 := by rw [alongErr, if_neg (by omega)]
  rw [eA, eE]
  clear eA eE
  go_enter Try.func8, Try.ntmps8
  go_wp2_with (go_at_call 18; refine (plus_post (begin_calls _)).mono ?_; rintro e w' ⟨rfl, nx, rfl⟩)
  go_loopw [16] (fun i wr => ∃ k : Nat, k ≤ n ∧ i = .int .i64 k ∧ (∀ j, j < k → styOk (nth sy0 l j) = true) ∧ ∃ x, wr = plus ((plus (w.alloc (.cells #[.int .u8 0, .int .u8 0, .int .u8 0, .int .u8 0, .int .i64 0, .int .u8 0, .int .i64 0, .bool false, .int .i64 0] 25)) nx).alloc (.cells #[.int .u8 ((runTo l k).l).r, .int .u8 ((runTo l k).l).g, .int .u8 ((runTo l k).l).b, .int .u8 ((runTo l k).l).a, .int .i64 ((runTo l k).l).tx, .int .u8 ((runTo l k).l).cu, .int .i64 ((runTo l k).l).bi, .bool ((runTo l k).l).bl, .int .i64 ((runTo l k).l).bn, .bool ((runTo l k)).k0, .bool ((runTo l k)).k1, .bool ((runTo l k)).k2, .bool ((runTo l k)).k3, .bool ((runTo l k)).k4] 39)) x) (fun i _ => n - (intOf i).toNat)
  case atStart => exact ⟨0, Nat.zero_le _, rfl, fun j hj => by omega, by simp only [runTo, ihW, lkW]; exact (by with_reducible repeat (first | exact ex_refl _ | exact ex_more | apply ex_alloc | apply ex_plus | apply ex_drew | apply ex_drewN))⟩
  case round =>
    obtain ⟨k, hk, rfl, hs, x, rfl⟩ := hrel
    by_cases hkl : k < n
    · have ik : (k : Int) < (n : Int) := by omega
      obtain ⟨g, off, rfl, hg, hc⟩ := hl.some (by omega)
      obtain ⟨c0, c1, c2, c3, c4, c5, c6, c7, c8, c9, c10, c11, c12, c13⟩ := cellSy hlen hc hkl
      have hb := hB k hkl
      have hlk := run_look hs k (Nat.le_refl k)
      obtain ⟨J, hJ⟩ : ∃ J, runTo l k = J := ⟨_, rfl⟩
      rw [hJ] at hlk ⊢
      obtain ⟨Y, hY⟩ : ∃ Y, nth sy0 l k = Y := ⟨_, rfl⟩
      rw [hY] at hb c0 c1 c2 c3 c4 c5 c6 c7 c8 c9 c10 c11 c12 c13
      obtain ⟨s0, s1, s2, s3, s4, ⟨vr, vg, vb, va, vt, vc, vi, vl, vn⟩⟩ := Y
      obtain ⟨⟨jr, jg, jb, ja, jt, jc, ji, jl, jn⟩, j0, j1, j2, j3, j4⟩ := J
      simp only at hlk c0 c1 c2 c3 c4 c5 c6 c7 c8 c9 c10 c11 c12 c13
      simp only
      cases ho : styOk ⟨s0, s1, s2, s3, s4, ⟨vr, vg, vb, va, vt, vc, vi, vl, vn⟩⟩
      · have e1 : underErr ⟨⟨jr, jg, jb, ja, jt, jc, ji, jl, jn⟩, j0, j1, j2, j3, j4⟩ ⟨s0, s1, s2, s3, s4, ⟨vr, vg, vb, va, vt, vc, vi, vl, vn⟩⟩ = 8 := by rw [underErr, underOk, ho, Bool.and_false]; rfl
        have e2 : under ⟨⟨jr, jg, jb, ja, jt, jc, ji, jl, jn⟩, j0, j1, j2, j3, j4⟩ ⟨s0, s1, s2, s3, s4, ⟨vr, vg, vb, va, vt, vc, vi, vl, vn⟩⟩ = ih0 := by rw [under, underOk, ho, Bool.and_false]; rfl
        have e3 : alongOk l = false := not_ok (k := k) (by omega) (by rw [hY]; exact ho)
        clear hl hB hc hJ hs hk hlk ho
        go_wp2_with (go_at_call 14; refine (plus_in (T := (plus (w.alloc (.cells #[.int .u8 0, .int .u8 0, .int .u8 0, .int .u8 0, .int .i64 0, .int .u8 0, .int .i64 0, .bool false, .int .i64 0] 25)) nx).alloc (.cells #[.int .u8 jr, .int .u8 jg, .int .u8 jb, .int .u8 ja, .int .i64 jt, .int .u8 jc, .int .i64 ji, .bool jl, .int .i64 jn, .bool j0, .bool j1, .bool j2, .bool j3, .bool j4] 39)) (by with_reducible repeat (first | exact ex_refl _ | exact ex_more | apply ex_alloc | apply ex_plus | apply ex_drew | apply ex_drewN)) (under_calls _ _ _ _ _ _ _ _ _ _ _ _ _ _ _ _ _ _ _ _ _ _ _ _ _ _ _ _ hb _)).mono ?_; rintro e w' ⟨rfl, ny, rfl⟩; simp only [e1, e2])
        all_goals exact bodyPost_ret (v := .tuple #[.agg #[.int .u8 0, .int .u8 0, .int .u8 0, .int .u8 0, .int .i64 0, .int .u8 0, .int .i64 0, .bool false, .int .i64 0], .int .i64 8]) (by simp [results, Try.results8, go_sem, ↓IntWalk.iteOmega]) rfl ⟨by first | rfl | (rw [e3]; rfl), by with_reducible repeat (first | exact Below.refl _ _ | apply ba | apply bp | apply bd | apply bn)⟩
      · have e1 : underErr ⟨⟨jr, jg, jb, ja, jt, jc, ji, jl, jn⟩, j0, j1, j2, j3, j4⟩ ⟨s0, s1, s2, s3, s4, ⟨vr, vg, vb, va, vt, vc, vi, vl, vn⟩⟩ = 0 := by rw [underErr, underOk, ho, hlk]; rfl
        have e2 : under ⟨⟨jr, jg, jb, ja, jt, jc, ji, jl, jn⟩, j0, j1, j2, j3, j4⟩ ⟨s0, s1, s2, s3, s4, ⟨vr, vg, vb, va, vt, vc, vi, vl, vn⟩⟩ = made ⟨⟨jr, jg, jb, ja, jt, jc, ji, jl, jn⟩, j0, j1, j2, j3, j4⟩ ⟨s0, s1, s2, s3, s4, ⟨vr, vg, vb, va, vt, vc, vi, vl, vn⟩⟩ := by rw [under, underOk, ho, hlk]; rfl
        obtain ⟨M, hM⟩ : ∃ M, made ⟨⟨jr, jg, jb, ja, jt, jc, ji, jl, jn⟩, j0, j1, j2, j3, j4⟩ ⟨s0, s1, s2, s3, s4, ⟨vr, vg, vb, va, vt, vc, vi, vl, vn⟩⟩ = M := ⟨_, rfl⟩
        rw [hM] at e2
        have e3 : runTo l (k + 1) = M := by rw [← hM, ← hJ, ← hY]; rfl
        have hs' := upto_ok hs (by rw [hY]; exact ho)
        clear hl hB hc hJ hs hlk ho hM
        go_wp2_with (go_at_call 14; refine (plus_in (T := (plus (w.alloc (.cells #[.int .u8 0, .int .u8 0, .int .u8 0, .int .u8 0, .int .i64 0, .int .u8 0, .int .i64 0, .bool false, .int .i64 0] 25)) nx).alloc (.cells #[.int .u8 jr, .int .u8 jg, .int .u8 jb, .int .u8 ja, .int .i64 jt, .int .u8 jc, .int .i64 ji, .bool jl, .int .i64 jn, .bool j0, .bool j1, .bool j2, .bool j3, .bool j4] 39)) (by with_reducible repeat (first | exact ex_refl _ | exact ex_more | apply ex_alloc | apply ex_plus | apply ex_drew | apply ex_drewN)) (under_calls _ _ _ _ _ _ _ _ _ _ _ _ _ _ _ _ _ _ _ _ _ _ _ _ _ _ _ _ hb _)).mono ?_; rintro e w' ⟨rfl, ny, rfl⟩; simp only [e1, e2])
        go_roundw
        case rel => exact ⟨k + 1, by omega, by go_num, hs', by rw [e3]; exact (by with_reducible repeat (first | exact ex_refl _ | exact ex_more | apply ex_alloc | apply ex_plus | apply ex_drew | apply ex_drewN))⟩
        case measure => simp [intOf]; omega
    · have ik : ¬ (k : Int) < (n : Int) := by omega
      obtain rfl : k = n := by omega
      have e3 : alongOk l = true := all_ok (by rw [hlen]; exact hs)
      clear hl hB
      go_wp2
      exact bodyPost_ret (v := .tuple #[.agg #[.int .u8 ((runTo l k).l).r, .int .u8 ((runTo l k).l).g, .int .u8 ((runTo l k).l).b, .int .u8 ((runTo l k).l).a, .int .i64 ((runTo l k).l).tx, .int .u8 ((runTo l k).l).cu, .int .i64 ((runTo l k).l).bi, .bool ((runTo l k).l).bl, .int .i64 ((runTo l k).l).bn], .int .i64 0]) (by simp [results, Try.results8, go_sem, ↓IntWalk.iteOmega]) rfl ⟨by first | rfl | (rw [e3]; rfl), by with_reducible repeat (first | exact Below.refl _ _ | apply ba | apply bp | apply bd | apply bn)⟩

end Go.Proofs.Ythcplebmffbmpaa
