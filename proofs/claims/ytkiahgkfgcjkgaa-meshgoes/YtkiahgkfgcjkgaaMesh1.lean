/- What mesh.threesOf, stripOf, fanOf give. -/
import Derived.Test.YtkiahgkfgcjkgaaProg
import Derived.Test.YtkiahgkfgcjkgaaMeshMath
import Derived.Test.YtkiahgkfgcjkgaaFresh
import Derived.Deep.RegionHeld3
import Derived.BigRegion
namespace Go.Proofs.Ytkiahgkfgcjkgaa
open Go.RowKit Go.ChangeShapes Go.WideShapes Go.ChangeAt
set_option linter.unusedSimpArgs false
set_option linter.unusedVariables false
attribute [local go_sem] plus_size plus_drew dn_set dn_alloc dn_plus plus_dn cell_plus frozen_plus set_plus cell_alloc frozen_alloc set_alloc

theorem wrap_le {n : Int} (h : 0 ≤ n ∧ n ≤ 9223372036854775807) : IntKind.i64.wrap n = n := by
  simp [IntKind.wrap, IntKind.bits, IntKind.signed]
  omega
theorem ex_more {T : World} {x : List More} {d : Nat} : ∃ y, plus T [⟨blocks x, d⟩] = plus (plus T x) y := ⟨[⟨#[], d⟩], by simp [plus, blocks, draws]⟩
theorem info_parts' {P : Program} {e : TypeId} {z : Value} {c b : Nat} (h : (P.info? e).map (fun i => (i.zero, i.size, i.bytes)) = some (some z, c, b)) (hc : z.cells.size = c) : ∃ i z, P.info? e = some i ∧ i.zero = some z ∧ i.size = c ∧ i.bytes = b ∧ z.cells.size = c := by
  obtain ⟨i0, hi, hz0, hz1, hz2⟩ := info_parts h
  exact ⟨i0, z, hi, hz0, hz1, hz2, hc⟩
theorem kinT : Kin Try.prog 22 34 3 24 := ⟨Try.underlying22, info_parts' (z := .agg #[.int .i64 0, .int .i64 0, .int .i64 0]) (by kernel_rfl) rfl, by decide⟩

theorem kinI : Kin Try.prog 26 3 1 8 := ⟨Try.underlying26, info_parts' (z := .int .i64 0) (by kernel_rfl) rfl, by decide⟩

theorem kinV : Kin Try.prog 29 49 3 24 := ⟨Try.underlying29, info_parts' (z := .agg #[.int .i64 0, .int .i64 0, .int .i64 0]) (by kernel_rfl) rfl, by decide⟩

theorem kin2 : Kin Try.prog 30 50 2 16 := ⟨Try.underlying30, info_parts' (z := .agg #[.int .i64 0, .int .i64 0]) (by kernel_rfl) rfl, by decide⟩

theorem kinP : Kin Try.prog 31 28 2 32 := ⟨Try.underlying31, info_parts' (z := .agg #[.int .u8 0, .slice none 0 0]) (by kernel_rfl) rfl, by decide⟩

theorem arr_34 (n : Nat) (a0 a1 a2 b0 b1 b2 : Int) (w : World) : (Op.equalIn (n + 1 + 1) 34 (.agg #[.int .i64 a0, .int .i64 a1, .int .i64 a2]) (.agg #[.int .i64 b0, .int .i64 b1, .int .i64 b2])).run Try.prog w = .ok (a0 == b0 && (a1 == b1 && (a2 == b2))) w := by
  have u3 := Try.underlying3
  have a3 := Try.isAgg3
  have z3 := Try.sizeOf3
  rw [Op.equalIn]
  simp only [Sem.run_bind, run_underlying Try.underlying34, Result.andThen_ok]
  simp only [Std.Legacy.Range.forIn_eq_forIn_range', Std.Legacy.Range.size, Nat.sub_zero, Nat.add_sub_cancel, Nat.div_one, List.range'_succ, List.range'_zero, List.forIn_cons, List.forIn_nil]
  go_simp
  by_cases h0 : a0 = b0 <;> by_cases h1 : a1 = b1 <;> by_cases h2 : a2 = b2 <;> simp [h0, h1, h2]
theorem eqarr_34 (a0 a1 a2 b0 b1 b2 : Int) (w : World) : (binOp .eql 34 (.agg #[.int .i64 a0, .int .i64 a1, .int .i64 a2]) (.agg #[.int .i64 b0, .int .i64 b1, .int .i64 b2])).run Try.prog w = .ok (.bool (a0 == b0 && (a1 == b1 && (a2 == b2)))) w := by
  simp only [binOp]
  simp [Op.equal, Op.maxDepth, arr_34 9998]
theorem larr_34 (a0 a1 a2 b0 b1 b2 : Int) (w : World) : (Op.equalIn 10000 34 (.agg #[.int .i64 a0, .int .i64 a1, .int .i64 a2]) (.agg #[.int .i64 b0, .int .i64 b1, .int .i64 b2])).run Try.prog w = .ok (a0 == b0 && (a1 == b1 && (a2 == b2))) w := arr_34 9998 a0 a1 a2 b0 b1 b2 w
theorem nearr_34 (a0 a1 a2 b0 b1 b2 : Int) (w : World) : (binOp .neq 34 (.agg #[.int .i64 a0, .int .i64 a1, .int .i64 a2]) (.agg #[.int .i64 b0, .int .i64 b1, .int .i64 b2])).run Try.prog w = .ok (.bool (!(a0 == b0 && (a1 == b1 && (a2 == b2))))) w := by
  simp only [binOp]
  simp [Op.equal, Op.maxDepth, arr_34 9998]

theorem arr_50 (n : Nat) (a0 a1 b0 b1 : Int) (w : World) : (Op.equalIn (n + 1 + 1) 50 (.agg #[.int .i64 a0, .int .i64 a1]) (.agg #[.int .i64 b0, .int .i64 b1])).run Try.prog w = .ok (a0 == b0 && (a1 == b1)) w := by
  have u3 := Try.underlying3
  have a3 := Try.isAgg3
  have z3 := Try.sizeOf3
  rw [Op.equalIn]
  simp only [Sem.run_bind, run_underlying Try.underlying50, Result.andThen_ok]
  simp only [Std.Legacy.Range.forIn_eq_forIn_range', Std.Legacy.Range.size, Nat.sub_zero, Nat.add_sub_cancel, Nat.div_one, List.range'_succ, List.range'_zero, List.forIn_cons, List.forIn_nil]
  go_simp
  by_cases h0 : a0 = b0 <;> by_cases h1 : a1 = b1 <;> simp [h0, h1]
theorem eqarr_50 (a0 a1 b0 b1 : Int) (w : World) : (binOp .eql 50 (.agg #[.int .i64 a0, .int .i64 a1]) (.agg #[.int .i64 b0, .int .i64 b1])).run Try.prog w = .ok (.bool (a0 == b0 && (a1 == b1))) w := by
  simp only [binOp]
  simp [Op.equal, Op.maxDepth, arr_50 9998]
theorem larr_50 (a0 a1 b0 b1 : Int) (w : World) : (Op.equalIn 10000 50 (.agg #[.int .i64 a0, .int .i64 a1]) (.agg #[.int .i64 b0, .int .i64 b1])).run Try.prog w = .ok (a0 == b0 && (a1 == b1)) w := arr_50 9998 a0 a1 b0 b1 w
theorem nearr_50 (a0 a1 b0 b1 : Int) (w : World) : (binOp .neq 50 (.agg #[.int .i64 a0, .int .i64 a1]) (.agg #[.int .i64 b0, .int .i64 b1])).run Try.prog w = .ok (.bool (!(a0 == b0 && (a1 == b1)))) w := by
  simp only [binOp]
  simp [Op.equal, Op.maxDepth, arr_50 9998]

theorem isnil_26 (ao : Option Addr) (n cap : Nat) (w : World) : (binOp .eql 26 (.slice ao n cap) (.slice none 0 0)).run Try.prog w = .ok (.bool ao.isNone) w := Lib.run_eql_slice_nil w _ _ ao n cap 0 0 Try.underlying26

theorem isnil_29 (ao : Option Addr) (n cap : Nat) (w : World) : (binOp .eql 29 (.slice ao n cap) (.slice none 0 0)).run Try.prog w = .ok (.bool ao.isNone) w := Lib.run_eql_slice_nil w _ _ ao n cap 0 0 Try.underlying29

theorem isnil_30 (ao : Option Addr) (n cap : Nat) (w : World) : (binOp .eql 30 (.slice ao n cap) (.slice none 0 0)).run Try.prog w = .ok (.bool ao.isNone) w := Lib.run_eql_slice_nil w _ _ ao n cap 0 0 Try.underlying30

theorem isnil_31 (ao : Option Addr) (n cap : Nat) (w : World) : (binOp .eql 31 (.slice ao n cap) (.slice none 0 0)).run Try.prog w = .ok (.bool ao.isNone) w := Lib.run_eql_slice_nil w _ _ ao n cap 0 0 Try.underlying31

set_option maxHeartbeats 2000000 in
theorem threesOf_calls (ao : Option Addr) (n cap : Nat) (ix : List Int) (w : World) (hl : Lay fI w ao n ix) (hn : n ≤ 10000) :
    Calls Try.prog 41 #[.slice ao n cap] w fun e w' => ∃ ao' cap', e = .returned (.slice ao' (n / 3) cap') ∧ (∃ y, w' = plus w y) ∧ Own 34 3 fV w w' ao' (n / 3) cap' (firsts (threeT ix) (n / 3)) := by
  go_enter Try.func41, Try.ntmps41
  go_wp2
  go_loopw [3, 4] (fun v i wr => ∃ (k : Nat) (ao' : Option Addr) (cap' : Nat), k ≤ n / 3 ∧ i = .int .i64 (3 * k : Nat) ∧ v = .slice ao' k cap' ∧ (∃ y, wr = plus w y) ∧ Own 34 3 fV w wr ao' k cap' (firsts (threeT ix) k)) (fun _ i _ => n - (intOf i).toNat)
  case atStart => exact ⟨0, none, 0, by omega, rfl, rfl, (by with_reducible repeat (first | exact ex_refl _ | exact ex_more | apply ex_alloc | apply ex_plus | apply ex_drew | apply ex_drewN)), own_nil⟩
  case round =>
    obtain ⟨k, ao', cap', hk, rfl, rfl, ⟨y, rfl⟩, hown⟩ := hrel
    obtain ⟨j, hj⟩ : ∃ j, 3 * k = j := ⟨_, rfl⟩
    rw [hj]
    by_cases hkl : j + 2 < n
    · obtain ⟨g, off, rfl, hg, hcell⟩ := hl.some (by omega)
      have c0 := cellI hl.len hcell (k := j) (by omega)
      have c1 := cellI hl.len hcell (k := j + 1) (by omega)
      have c2 := cellI hl.len hcell (k := j + 2) (by omega)
      have ik0 : (j : Int) < (n : Int) := by omega
      have ik1 : (j : Int) + 1 < (n : Int) := by omega
      have ip1 : (0 : Int) ≤ (j : Int) + 1 := by omega
      have iw1 : IntKind.i64.wrap ((j : Int) + 1) = (j : Int) + 1 := wrap_le (by omega)
      have it1 : ((j : Int) + 1).toNat = j + 1 := by omega
      have ik2 : (j : Int) + 2 < (n : Int) := by omega
      have ip2 : (0 : Int) ≤ (j : Int) + 2 := by omega
      have iw2 : IntKind.i64.wrap ((j : Int) + 2) = (j : Int) + 2 := wrap_le (by omega)
      have it2 : ((j : Int) + 2).toNat = j + 2 := by omega
      go_wp2
      go_region_held3 (fun w' => w'.cell? ⟨g, off + j, none⟩ = some (.int .i64 (nth 0 ix j)) ∧ w'.cell? ⟨g, off + (j + 1), none⟩ = some (.int .i64 (nth 0 ix (j + 1))) ∧ w'.cell? ⟨g, off + (j + 2), none⟩ = some (.int .i64 (nth 0 ix (j + 2)))) (first | (simp [go_sem, ↓IntWalk.iteOmega, c0, c1, c2]; done)) (first | (refine step_append_lay (T := w) rfl _ _ rfl kinT fV_c fV_1 rfl (by with_reducible repeat (first | exact ex_refl _ | exact ex_more | apply ex_alloc | apply ex_plus | apply ex_drew | apply ex_drewN)) (hown.ex (by with_reducible repeat (first | exact ex_refl _ | exact ex_more | apply ex_alloc | apply ex_plus | apply ex_drew | apply ex_drewN))) rfl (l2 := [threeT ix k]) ⟨rfl, .inr ⟨_, 0, rfl, by simp [go_sem]; try omega, fun jj u hu => by match jj, hu with | 0, hu => (simp [fV, threeT, hj] at hu; subst hu; simp [go_sem, ↓IntWalk.iteOmega]) | 1, hu => (simp [fV, threeT, hj] at hu; subst hu; simp [go_sem, ↓IntWalk.iteOmega]) | 2, hu => (simp [fV, threeT, hj] at hu; subst hu; simp [go_sem, ↓IntWalk.iteOmega]) | jj + 3, hu => simp [fV] at hu⟩⟩ (by omega) (by decide) ?_; intro ao' cap' y' hown'))
      go_wp2
      go_roundw
      case rel => exact ⟨k + 1, ao', cap', by omega, by subst hj; go_num, by subst hj; rfl, ⟨y', rfl⟩, by subst hj; rw [← firsts_succ]; exact hown'⟩
      case measure => simp [intOf]; omega
    · have ik : ¬ (j : Int) + 2 < (n : Int) := by omega
      obtain rfl : k = n / 3 := by omega
      go_wp2
      go_ret
      exact ⟨ao', cap', rfl, ⟨y, rfl⟩, hown⟩

set_option maxHeartbeats 2000000 in
theorem fanOf_calls (ao : Option Addr) (n cap : Nat) (ix : List Int) (w : World) (hl : Lay fI w ao n ix) (hn : n ≤ 10000) :
    Calls Try.prog 40 #[.slice ao n cap] w fun e w' => ∃ ao' cap', e = .returned (.slice ao' (n - 2) cap') ∧ (∃ y, w' = plus w y) ∧ Own 34 3 fV w w' ao' (n - 2) cap' (firsts (fanT ix) (n - 2)) := by
  go_enter Try.func40, Try.ntmps40
  go_wp2
  go_loopw [3, 4] (fun v i wr => ∃ (k : Nat) (ao' : Option Addr) (cap' : Nat), k ≤ n - 2 ∧ i = .int .i64 (k + 1 : Nat) ∧ v = .slice ao' k cap' ∧ (∃ y, wr = plus w y) ∧ Own 34 3 fV w wr ao' k cap' (firsts (fanT ix) k)) (fun _ i _ => n - (intOf i).toNat)
  case atStart => exact ⟨0, none, 0, by omega, rfl, rfl, (by with_reducible repeat (first | exact ex_refl _ | exact ex_more | apply ex_alloc | apply ex_plus | apply ex_drew | apply ex_drewN)), own_nil⟩
  case round =>
    obtain ⟨k, ao', cap', hk, rfl, rfl, ⟨y, rfl⟩, hown⟩ := hrel
    obtain ⟨j, hj⟩ : ∃ j, k + 1 = j := ⟨_, rfl⟩
    rw [hj]
    by_cases hkl : j + 1 < n
    · obtain ⟨g, off, rfl, hg, hcell⟩ := hl.some (by omega)
      have z0 := cellI hl.len hcell (k := 0) (by omega)
      rw [Nat.add_zero] at z0
      have c0 := cellI hl.len hcell (k := j) (by omega)
      have c1 := cellI hl.len hcell (k := j + 1) (by omega)
      have iz : (0 : Int) < (n : Int) := by omega
      have iz1 : 0 < n := by omega
      have iz2 : ¬ n = 0 := by omega
      have iz3 : ¬ (n : Int) ≤ 0 := by omega
      have ik0 : (j : Int) < (n : Int) := by omega
      have ik1 : (j : Int) + 1 < (n : Int) := by omega
      have ip1 : (0 : Int) ≤ (j : Int) + 1 := by omega
      have iw1 : IntKind.i64.wrap ((j : Int) + 1) = (j : Int) + 1 := wrap_le (by omega)
      have it1 : ((j : Int) + 1).toNat = j + 1 := by omega
      go_wp2
      go_region_held3 (fun w' => w'.cell? ⟨g, off, none⟩ = some (.int .i64 (nth 0 ix 0)) ∧ w'.cell? ⟨g, off + j, none⟩ = some (.int .i64 (nth 0 ix j)) ∧ w'.cell? ⟨g, off + (j + 1), none⟩ = some (.int .i64 (nth 0 ix (j + 1)))) (first | (simp [go_sem, ↓IntWalk.iteOmega, z0, c0, c1]; done)) (first | (refine step_append_lay (T := w) rfl _ _ rfl kinT fV_c fV_1 rfl (by with_reducible repeat (first | exact ex_refl _ | exact ex_more | apply ex_alloc | apply ex_plus | apply ex_drew | apply ex_drewN)) (hown.ex (by with_reducible repeat (first | exact ex_refl _ | exact ex_more | apply ex_alloc | apply ex_plus | apply ex_drew | apply ex_drewN))) rfl (l2 := [fanT ix k]) ⟨rfl, .inr ⟨_, 0, rfl, by simp [go_sem]; try omega, fun jj u hu => by match jj, hu with | 0, hu => (simp [fV, fanT, show k + 1 = j from hj, show k + 2 = j + 1 by omega] at hu; subst hu; simp [go_sem, ↓IntWalk.iteOmega]) | 1, hu => (simp [fV, fanT, show k + 1 = j from hj, show k + 2 = j + 1 by omega] at hu; subst hu; simp [go_sem, ↓IntWalk.iteOmega]) | 2, hu => (simp [fV, fanT, show k + 1 = j from hj, show k + 2 = j + 1 by omega] at hu; subst hu; simp [go_sem, ↓IntWalk.iteOmega]) | jj + 3, hu => simp [fV] at hu⟩⟩ (by omega) (by decide) ?_; intro ao' cap' y' hown'))
      go_wp2
      go_roundw
      case rel => exact ⟨k + 1, ao', cap', by omega, by subst hj; go_num, by subst hj; rfl, ⟨y', rfl⟩, by subst hj; rw [← firsts_succ]; exact hown'⟩
      case measure => simp [intOf]; omega
    · have ik : ¬ (j : Int) + 1 < (n : Int) := by omega
      obtain rfl : k = n - 2 := by omega
      go_wp2
      go_ret
      exact ⟨ao', cap', rfl, ⟨y, rfl⟩, hown⟩

end Go.Proofs.Ytkiahgkfgcjkgaa
