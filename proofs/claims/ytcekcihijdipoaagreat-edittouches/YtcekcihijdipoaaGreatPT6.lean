/- A pack of texts: Mesh1, Mesh4, Tx1, Tx2, Ed1, Ed2. -/
import Derived.Test.YtcekcihijdipoaaGreatProg
import Derived.Deep.RegionHeld3
import Derived.BigRegion
import Derived.Test.YtcekcihijdipoaaGreatPT1
import Derived.Test.YtcekcihijdipoaaGreatPT5
import Derived.Test.YtcekcihijdipoaaGreatPT2
namespace Go.Proofs.YtcekcihijdipoaaGreat

section


open Go.RowKit Go.ChangeShapes Go.WideShapes Go.ChangeAt

set_option linter.unusedSimpArgs false

set_option linter.unusedVariables false

attribute [local go_sem] plus_size plus_drew dn_set dn_alloc dn_plus plus_dn cell_plus frozen_plus set_plus cell_alloc frozen_alloc set_alloc

theorem wrap_leM {n : Int} (h : 0 ≤ n ∧ n ≤ 9223372036854775807) : IntKind.i64.wrap n = n := by
  simp [IntKind.wrap, IntKind.bits, IntKind.signed]
  omega

theorem ex_moreM {T : World} {x : List More} {d : Nat} : ∃ y, plus T [⟨blocks x, d⟩] = plus (plus T x) y := ⟨[⟨#[], d⟩], by simp [plus, blocks, draws]⟩
theorem snM {w w' : World} (h : ∃ y, w' = plus w y := by with_reducible repeat (first | exact ex_refl _ | exact ex_moreM | apply ex_alloc | apply ex_plus | apply ex_drew | apply ex_drewN | (apply ex_on; assumption))) : ∃ y, w' = plus w y := h
theorem skM {w w' : World} (h : ∃ y, w' = plus w y := by with_reducible repeat (first | exact ex_refl _ | exact ex_moreM | apply ex_alloc | apply ex_plus | apply ex_drew | apply ex_drewN)) : ∃ y, w' = plus w y := h

theorem info_partsM {P : Program} {e : TypeId} {z : Value} {c b : Nat} (h : (P.info? e).map (fun i => (i.zero, i.size, i.bytes)) = some (some z, c, b)) (hc : z.cells.size = c) : ∃ i z, P.info? e = some i ∧ i.zero = some z ∧ i.size = c ∧ i.bytes = b ∧ z.cells.size = c := by
  obtain ⟨i0, hi, hz0, hz1, hz2⟩ := info_parts h
  exact ⟨i0, z, hi, hz0, hz1, hz2, hc⟩

theorem kinT : Kin Tryz.prog 219 40 3 24 := ⟨Tryz.underlying219, info_partsM (z := .agg #[.int .i64 0, .int .i64 0, .int .i64 0]) (by kernel_rfl) rfl, by decide⟩

theorem kinI : Kin Tryz.prog 47 3 1 8 := ⟨Tryz.underlying47, info_partsM (z := .int .i64 0) (by kernel_rfl) rfl, by decide⟩

theorem kinV : Kin Tryz.prog 57 43 3 24 := ⟨Tryz.underlying57, info_partsM (z := .agg #[.int .i64 0, .int .i64 0, .int .i64 0]) (by kernel_rfl) rfl, by decide⟩

theorem kin2 : Kin Tryz.prog 58 137 2 16 := ⟨Tryz.underlying58, info_partsM (z := .agg #[.int .i64 0, .int .i64 0]) (by kernel_rfl) rfl, by decide⟩

theorem kinP : Kin Tryz.prog 59 131 2 32 := ⟨Tryz.underlying59, info_partsM (z := .agg #[.int .u8 0, .slice none 0 0]) (by kernel_rfl) rfl, by decide⟩

theorem arr_40 (n : Nat) (a0 a1 a2 b0 b1 b2 : Int) (w : World) : (Op.equalIn (n + 1 + 1) 40 (.agg #[.int .i64 a0, .int .i64 a1, .int .i64 a2]) (.agg #[.int .i64 b0, .int .i64 b1, .int .i64 b2])).run Tryz.prog w = .ok (a0 == b0 && (a1 == b1 && (a2 == b2))) w := by
  have u3 := Tryz.underlying3
  have a3 := Tryz.isAgg3
  have z3 := Tryz.sizeOf3
  rw [Op.equalIn]
  simp only [Sem.run_bind, run_underlying Tryz.underlying40, Result.andThen_ok]
  simp only [Std.Legacy.Range.forIn_eq_forIn_range', Std.Legacy.Range.size, Nat.sub_zero, Nat.add_sub_cancel, Nat.div_one, List.range'_succ, List.range'_zero, List.forIn_cons, List.forIn_nil]
  go_simp
  by_cases h0 : a0 = b0 <;> by_cases h1 : a1 = b1 <;> by_cases h2 : a2 = b2 <;> simp [h0, h1, h2]

theorem eqarr_40 (a0 a1 a2 b0 b1 b2 : Int) (w : World) : (binOp .eql 40 (.agg #[.int .i64 a0, .int .i64 a1, .int .i64 a2]) (.agg #[.int .i64 b0, .int .i64 b1, .int .i64 b2])).run Tryz.prog w = .ok (.bool (a0 == b0 && (a1 == b1 && (a2 == b2)))) w := by
  simp only [binOp]
  simp [Op.equal, Op.maxDepth, arr_40 9998]

theorem larr_40 (a0 a1 a2 b0 b1 b2 : Int) (w : World) : (Op.equalIn 10000 40 (.agg #[.int .i64 a0, .int .i64 a1, .int .i64 a2]) (.agg #[.int .i64 b0, .int .i64 b1, .int .i64 b2])).run Tryz.prog w = .ok (a0 == b0 && (a1 == b1 && (a2 == b2))) w := arr_40 9998 a0 a1 a2 b0 b1 b2 w

theorem nearr_40 (a0 a1 a2 b0 b1 b2 : Int) (w : World) : (binOp .neq 40 (.agg #[.int .i64 a0, .int .i64 a1, .int .i64 a2]) (.agg #[.int .i64 b0, .int .i64 b1, .int .i64 b2])).run Tryz.prog w = .ok (.bool (!(a0 == b0 && (a1 == b1 && (a2 == b2))))) w := by
  simp only [binOp]
  simp [Op.equal, Op.maxDepth, arr_40 9998]

theorem arr_137 (n : Nat) (a0 a1 b0 b1 : Int) (w : World) : (Op.equalIn (n + 1 + 1) 137 (.agg #[.int .i64 a0, .int .i64 a1]) (.agg #[.int .i64 b0, .int .i64 b1])).run Tryz.prog w = .ok (a0 == b0 && (a1 == b1)) w := by
  have u3 := Tryz.underlying3
  have a3 := Tryz.isAgg3
  have z3 := Tryz.sizeOf3
  rw [Op.equalIn]
  simp only [Sem.run_bind, run_underlying Tryz.underlying137, Result.andThen_ok]
  simp only [Std.Legacy.Range.forIn_eq_forIn_range', Std.Legacy.Range.size, Nat.sub_zero, Nat.add_sub_cancel, Nat.div_one, List.range'_succ, List.range'_zero, List.forIn_cons, List.forIn_nil]
  go_simp
  by_cases h0 : a0 = b0 <;> by_cases h1 : a1 = b1 <;> simp [h0, h1]

theorem eqarr_137 (a0 a1 b0 b1 : Int) (w : World) : (binOp .eql 137 (.agg #[.int .i64 a0, .int .i64 a1]) (.agg #[.int .i64 b0, .int .i64 b1])).run Tryz.prog w = .ok (.bool (a0 == b0 && (a1 == b1))) w := by
  simp only [binOp]
  simp [Op.equal, Op.maxDepth, arr_137 9998]

theorem larr_137 (a0 a1 b0 b1 : Int) (w : World) : (Op.equalIn 10000 137 (.agg #[.int .i64 a0, .int .i64 a1]) (.agg #[.int .i64 b0, .int .i64 b1])).run Tryz.prog w = .ok (a0 == b0 && (a1 == b1)) w := arr_137 9998 a0 a1 b0 b1 w

theorem nearr_137 (a0 a1 b0 b1 : Int) (w : World) : (binOp .neq 137 (.agg #[.int .i64 a0, .int .i64 a1]) (.agg #[.int .i64 b0, .int .i64 b1])).run Tryz.prog w = .ok (.bool (!(a0 == b0 && (a1 == b1)))) w := by
  simp only [binOp]
  simp [Op.equal, Op.maxDepth, arr_137 9998]

theorem isnil_47 (ao : Option Addr) (n cap : Nat) (w : World) : (binOp .eql 47 (.slice ao n cap) (.slice none 0 0)).run Tryz.prog w = .ok (.bool ao.isNone) w := Lib.run_eql_slice_nil w _ _ ao n cap 0 0 Tryz.underlying47

theorem isnil_57 (ao : Option Addr) (n cap : Nat) (w : World) : (binOp .eql 57 (.slice ao n cap) (.slice none 0 0)).run Tryz.prog w = .ok (.bool ao.isNone) w := Lib.run_eql_slice_nil w _ _ ao n cap 0 0 Tryz.underlying57

theorem isnil_58 (ao : Option Addr) (n cap : Nat) (w : World) : (binOp .eql 58 (.slice ao n cap) (.slice none 0 0)).run Tryz.prog w = .ok (.bool ao.isNone) w := Lib.run_eql_slice_nil w _ _ ao n cap 0 0 Tryz.underlying58

theorem isnil_59 (ao : Option Addr) (n cap : Nat) (w : World) : (binOp .eql 59 (.slice ao n cap) (.slice none 0 0)).run Tryz.prog w = .ok (.bool ao.isNone) w := Lib.run_eql_slice_nil w _ _ ao n cap 0 0 Tryz.underlying59

set_option maxHeartbeats 2000000 in
theorem threesOf_calls (ao : Option Addr) (n cap : Nat) (ix : List Int) (w : World) (hl : Lay fI w ao n ix) (hn : n ≤ 10000) :
    Calls Tryz.prog 193 #[.slice ao n cap] w fun e w' => ∃ ao' cap', e = .returned (.slice ao' (n / 3) cap') ∧ (∃ y, w' = plus w y) ∧ Own 40 3 fV w w' ao' (n / 3) cap' (firsts (threeT ix) (n / 3)) := by
  go_enter Tryz.func193, Tryz.ntmps193
  go_wp2
  go_loopw [3, 4] (fun v i wr => ∃ (k : Nat) (ao' : Option Addr) (cap' : Nat), k ≤ n / 3 ∧ i = .int .i64 (3 * k : Nat) ∧ v = .slice ao' k cap' ∧ (∃ y, wr = plus w y) ∧ Own 40 3 fV w wr ao' k cap' (firsts (threeT ix) k)) (fun _ i _ => n - (intOf i).toNat)
  case atStart => exact ⟨0, none, 0, by omega, rfl, rfl, skM, own_nil⟩
  case round =>
    obtain ⟨k, ao', cap', hk, rfl, rfl, ⟨y, rfl⟩, hown⟩ := hrel
    obtain ⟨j, hj⟩ : ∃ j, 3 * k = j := ⟨_, rfl⟩
    rw [hj]
    by_cases hkl : j + 2 < n
    · obtain ⟨g, off, rfl, hg, hcell⟩ := hl.some (by omega)
      have c0 := cellI hl.len hcell (k := j) (by omega)
      have c1 := cellI hl.len hcell (k := j + 1) (by omega)
      have c2 := cellI hl.len hcell (k := j + 2) (by omega)
      have ik0 : (j : Int) < (n : Int) := by omega
      have ik1 : (j : Int) + 1 < (n : Int) := by omega
      have ip1 : (0 : Int) ≤ (j : Int) + 1 := by omega
      have iw1 : IntKind.i64.wrap ((j : Int) + 1) = (j : Int) + 1 := wrap_leM (by omega)
      have it1 : ((j : Int) + 1).toNat = j + 1 := by omega
      have ik2 : (j : Int) + 2 < (n : Int) := by omega
      have ip2 : (0 : Int) ≤ (j : Int) + 2 := by omega
      have iw2 : IntKind.i64.wrap ((j : Int) + 2) = (j : Int) + 2 := wrap_leM (by omega)
      have it2 : ((j : Int) + 2).toNat = j + 2 := by omega
      go_wp2
      go_region_held3 (fun w' => w'.cell? ⟨g, off + j, none⟩ = some (.int .i64 (nth 0 ix j)) ∧ w'.cell? ⟨g, off + (j + 1), none⟩ = some (.int .i64 (nth 0 ix (j + 1))) ∧ w'.cell? ⟨g, off + (j + 2), none⟩ = some (.int .i64 (nth 0 ix (j + 2)))) (first | (simp [go_sem, ↓IntWalk.iteOmega, c0, c1, c2]; done)) (first | (refine step_append_lay (T := w) rfl _ _ rfl kinT fV_c fV_1 rfl skM (hown.ex skM) rfl (l2 := [threeT ix k]) ⟨rfl, .inr ⟨_, 0, rfl, by simp [go_sem]; try omega, fun jj u hu => by match jj, hu with | 0, hu => (simp [fV, threeT, hj] at hu; subst hu; simp [go_sem, ↓IntWalk.iteOmega]) | 1, hu => (simp [fV, threeT, hj] at hu; subst hu; simp [go_sem, ↓IntWalk.iteOmega]) | 2, hu => (simp [fV, threeT, hj] at hu; subst hu; simp [go_sem, ↓IntWalk.iteOmega]) | jj + 3, hu => simp [fV] at hu⟩⟩ (by omega) (by decide) ?_; intro ao' cap' y' hown'))
      go_wp2
      go_roundw
      case rel => exact ⟨k + 1, ao', cap', by omega, by subst hj; go_num, by subst hj; rfl, ⟨y', rfl⟩, by subst hj; rw [← firsts_succ]; exact hown'⟩
      case measure => simp [intOf]; omega
    · have ik : ¬ (j : Int) + 2 < (n : Int) := by omega
      obtain rfl : k = n / 3 := by omega
      go_wp2
      go_ret
      exact ⟨ao', cap', rfl, ⟨y, rfl⟩, hown⟩

set_option maxHeartbeats 2000000 in
theorem fanOf_calls (ao : Option Addr) (n cap : Nat) (ix : List Int) (w : World) (hl : Lay fI w ao n ix) (hn : n ≤ 10000) :
    Calls Tryz.prog 192 #[.slice ao n cap] w fun e w' => ∃ ao' cap', e = .returned (.slice ao' (n - 2) cap') ∧ (∃ y, w' = plus w y) ∧ Own 40 3 fV w w' ao' (n - 2) cap' (firsts (fanT ix) (n - 2)) := by
  go_enter Tryz.func192, Tryz.ntmps192
  go_wp2
  go_loopw [3, 4] (fun v i wr => ∃ (k : Nat) (ao' : Option Addr) (cap' : Nat), k ≤ n - 2 ∧ i = .int .i64 (k + 1 : Nat) ∧ v = .slice ao' k cap' ∧ (∃ y, wr = plus w y) ∧ Own 40 3 fV w wr ao' k cap' (firsts (fanT ix) k)) (fun _ i _ => n - (intOf i).toNat)
  case atStart => exact ⟨0, none, 0, by omega, rfl, rfl, skM, own_nil⟩
  case round =>
    obtain ⟨k, ao', cap', hk, rfl, rfl, ⟨y, rfl⟩, hown⟩ := hrel
    obtain ⟨j, hj⟩ : ∃ j, k + 1 = j := ⟨_, rfl⟩
    rw [hj]
    by_cases hkl : j + 1 < n
    · obtain ⟨g, off, rfl, hg, hcell⟩ := hl.some (by omega)
      have z0 := cellI hl.len hcell (k := 0) (by omega)
      rw [Nat.add_zero] at z0
      have c0 := cellI hl.len hcell (k := j) (by omega)
      have c1 := cellI hl.len hcell (k := j + 1) (by omega)
      have iz : (0 : Int) < (n : Int) := by omega
      have iz1 : 0 < n := by omega
      have iz2 : ¬ n = 0 := by omega
      have iz3 : ¬ (n : Int) ≤ 0 := by omega
      have ik0 : (j : Int) < (n : Int) := by omega
      have ik1 : (j : Int) + 1 < (n : Int) := by omega
      have ip1 : (0 : Int) ≤ (j : Int) + 1 := by omega
      have iw1 : IntKind.i64.wrap ((j : Int) + 1) = (j : Int) + 1 := wrap_leM (by omega)
      have it1 : ((j : Int) + 1).toNat = j + 1 := by omega
      go_wp2
      go_region_held3 (fun w' => w'.cell? ⟨g, off, none⟩ = some (.int .i64 (nth 0 ix 0)) ∧ w'.cell? ⟨g, off + j, none⟩ = some (.int .i64 (nth 0 ix j)) ∧ w'.cell? ⟨g, off + (j + 1), none⟩ = some (.int .i64 (nth 0 ix (j + 1)))) (first | (simp [go_sem, ↓IntWalk.iteOmega, z0, c0, c1]; done)) (first | (refine step_append_lay (T := w) rfl _ _ rfl kinT fV_c fV_1 rfl skM (hown.ex skM) rfl (l2 := [fanT ix k]) ⟨rfl, .inr ⟨_, 0, rfl, by simp [go_sem]; try omega, fun jj u hu => by match jj, hu with | 0, hu => (simp [fV, fanT, show k + 1 = j from hj, show k + 2 = j + 1 by omega] at hu; subst hu; simp [go_sem, ↓IntWalk.iteOmega]) | 1, hu => (simp [fV, fanT, show k + 1 = j from hj, show k + 2 = j + 1 by omega] at hu; subst hu; simp [go_sem, ↓IntWalk.iteOmega]) | 2, hu => (simp [fV, fanT, show k + 1 = j from hj, show k + 2 = j + 1 by omega] at hu; subst hu; simp [go_sem, ↓IntWalk.iteOmega]) | jj + 3, hu => simp [fV] at hu⟩⟩ (by omega) (by decide) ?_; intro ao' cap' y' hown'))
      go_wp2
      go_roundw
      case rel => exact ⟨k + 1, ao', cap', by omega, by subst hj; go_num, by subst hj; rfl, ⟨y', rfl⟩, by subst hj; rw [← firsts_succ]; exact hown'⟩
      case measure => simp [intOf]; omega
    · have ik : ¬ (j : Int) + 1 < (n : Int) := by omega
      obtain rfl : k = n - 2 := by omega
      go_wp2
      go_ret
      exact ⟨ao', cap', rfl, ⟨y, rfl⟩, hown⟩

end

section


open Go.RowKit Go.ChangeShapes Go.WideShapes Go.ChangeAt

set_option linter.unusedSimpArgs false

set_option linter.unusedVariables false

attribute [local go_sem] plus_size plus_drew dn_set dn_alloc dn_plus plus_dn cell_plus frozen_plus set_plus cell_alloc frozen_alloc set_alloc

attribute [local go_sem] eqarr_40 nearr_40 larr_40

attribute [local go_sem] eqarr_137 nearr_137 larr_137

attribute [local go_sem] isnil_47

attribute [local go_sem] isnil_57

attribute [local go_sem] isnil_58

attribute [local go_sem] isnil_59

theorem upto_succM {p : Nat → Prop} {k : Nat} (h : ∀ j, j < k → p j) (hk : p k) : ∀ j, j < k + 1 → p j := by
  intro j hj
  rcases Nat.lt_or_eq_of_le (Nat.le_of_lt_succ hj) with e | e
  · exact h j e
  · exact e ▸ hk

set_option maxHeartbeats 1000000 in
theorem within_calls (lo hi : Int) (ao : Option Addr) (n cap : Nat) (l : List Int) (w : World) (hl : Lay fI w ao n l) (hn : n ≤ 10000) :
    Calls Tryz.prog 172 #[.int .i64 lo, .int .i64 hi, .slice ao n cap] w fun e w' => e = .returned (.bool (l.all (inR lo hi))) ∧ Below w.heap.size w w' := by
  have hlen := hl.len
  go_enter Tryz.func172, Tryz.ntmps172
  go_wp2
  go_loopw [11] (fun i wr => ∃ k : Nat, k ≤ n ∧ i = .int .i64 k ∧ (∀ j, j < k → inR lo hi (nth 0 l j) = true) ∧ ∃ x, wr = plus w x) (fun i _ => n - (intOf i).toNat)
  case atStart => exact ⟨0, Nat.zero_le _, rfl, fun j hj => by omega, skM⟩
  case round =>
    obtain ⟨k, hk, rfl, hs, x, rfl⟩ := hrel
    by_cases hkl : k < n
    · obtain ⟨g, off, rfl, hg, hcell⟩ := hl.some (by omega)
      have c0 := cellI hlen hcell (k := k) hkl
      have ik : (k : Int) < (n : Int) := by omega
      by_cases h1 : nth 0 l k < lo
      · go_wp2
        go_ret
        exact ⟨by rw [all_not (d := 0) (k := k) (by omega) (by simp [inR]; omega)]; rfl, skB⟩
      · by_cases h2 : hi < nth 0 l k
        · go_wp2
          go_ret
          exact ⟨by rw [all_not (d := 0) (k := k) (by omega) (by simp [inR]; omega)]; rfl, skB⟩
        · go_wp2
          go_roundw
          case rel => exact ⟨k + 1, by omega, by go_num, upto_succM hs (by simp [inR]; omega), skM⟩
          case measure => simp [intOf]; omega
    · have ik : ¬ (k : Int) < (n : Int) := by omega
      go_wp2
      go_ret
      exact ⟨by rw [all_yes (d := 0) (fun j hj => hs j (by omega))]; rfl, skB⟩

set_option maxHeartbeats 2000000 in
theorem numbers_callsM (ao ao2 : Option Addr) (n n2 cap cap2 : Nat) (l l2 : List Int) (w : World) (hl : Lay fI w ao n l) (hl2 : Lay fI w ao2 n2 l2) (hn : n ≤ 10000) (hn2 : n2 ≤ 10000) :
    Calls Tryz.prog 62 #[.slice ao n cap, .slice ao2 n2 cap2] w fun e w' => e = .returned (.bool (sameI l l2)) ∧ Below w.heap.size w w' := by
  have hlen := hl.len
  have hlen2 := hl2.len
  by_cases hne : n = n2
  rotate_left
  · rw [show sameI l l2 = false from same_len (by omega)]
    have ine : ¬ (n : Int) = (n2 : Int) := by omega
    have dne : ((n : Int) == (n2 : Int)) = false := by rw [beq_eq_false_iff_ne]; omega
    go_enter Tryz.func62, Tryz.ntmps62
    go_wp2
    go_ret
    exact ⟨rfl, skB⟩
  subst hne
  go_enter Tryz.func62, Tryz.ntmps62
  go_wp2
  go_loopw [5] (fun i wr => ∃ k : Nat, k ≤ n ∧ i = .int .i64 k ∧ (∀ j, j < k → eqI (nth 0 l j) (nth 0 l2 j) = true) ∧ ∃ x, wr = plus w x) (fun i _ => n - (intOf i).toNat)
  case atStart => exact ⟨0, Nat.zero_le _, rfl, fun j hj => by omega, skM⟩
  case round =>
    obtain ⟨k, hk, rfl, hs, x, rfl⟩ := hrel
    by_cases hkl : k < n
    · obtain ⟨g, off, rfl, hg, hcell⟩ := hl.some (by omega)
      obtain ⟨g2, off2, rfl, hg2, hcell2⟩ := hl2.some (by omega)
      have ik : (k : Int) < (n : Int) := by omega
      have c0 := cellI hlen hcell hkl
      have c1 := cellI hlen2 hcell2 hkl
      by_cases q0 : (nth 0 l k) = (nth 0 l2 k)
      rotate_left
      · have dq : ((nth 0 l k) == (nth 0 l2 k)) = false := by simp [q0]
        go_wp2
        refine region_plus (by kernel_rfl) (by kernel_rfl) ?_
        (repeat (go_big_quiet_step (fail)))
        refine wpQuiet_nil ?_
        rintro _ ⟨x2, rfl⟩
        go_wp2
        go_ret
        exact ⟨by rw [show sameI l l2 = false from same_not (k := k) (by omega) (by simp [eqI, q0])]; rfl, skB⟩
      go_wp2
      refine region_plus (by kernel_rfl) (by kernel_rfl) ?_
      (repeat (go_big_quiet_step (fail)))
      refine wpQuiet_nil ?_
      rintro _ ⟨x2, rfl⟩
      go_wp2
      go_roundw
      case rel => exact ⟨k + 1, by omega, by go_num, upto_succM hs (by simp [eqI, q0]), skM⟩
      case measure => simp [intOf]; omega
    · have ik : ¬ (k : Int) < (n : Int) := by omega
      go_wp2
      go_ret
      exact ⟨by rw [show sameI l l2 = true from same_all (by omega) (fun j hj => hs j (by omega))]; rfl, skB⟩

set_option maxHeartbeats 2000000 in
theorem equalI_calls (ao ao2 : Option Addr) (n n2 cap cap2 : Nat) (l l2 : List Int) (w : World) (hl : Lay fI w ao n l) (hl2 : Lay fI w ao2 n2 l2) (hn : n ≤ 10000) (hn2 : n2 ≤ 10000) :
    Calls Tryz.prog 93 #[.slice ao n cap, .slice ao2 n2 cap2] w fun e w' => e = .returned (.bool (sameI l l2)) ∧ Below w.heap.size w w' := by
  have hlen := hl.len
  have hlen2 := hl2.len
  by_cases hne : n = n2
  rotate_left
  · rw [show sameI l l2 = false from same_len (by omega)]
    have ine : ¬ (n : Int) = (n2 : Int) := by omega
    have dne : ((n : Int) == (n2 : Int)) = false := by rw [beq_eq_false_iff_ne]; omega
    go_enter Tryz.func93, Tryz.ntmps93
    go_wp2
    go_ret
    exact ⟨rfl, skB⟩
  subst hne
  go_enter Tryz.func93, Tryz.ntmps93
  go_wp2
  go_loopw [13] (fun i wr => ∃ k : Nat, k ≤ n ∧ i = .int .i64 k ∧ (∀ j, j < k → eqI (nth 0 l j) (nth 0 l2 j) = true) ∧ ∃ x, wr = plus w x) (fun i _ => n - (intOf i).toNat)
  case atStart => exact ⟨0, Nat.zero_le _, rfl, fun j hj => by omega, skM⟩
  case round =>
    obtain ⟨k, hk, rfl, hs, x, rfl⟩ := hrel
    by_cases hkl : k < n
    · obtain ⟨g, off, rfl, hg, hcell⟩ := hl.some (by omega)
      obtain ⟨g2, off2, rfl, hg2, hcell2⟩ := hl2.some (by omega)
      have ik : (k : Int) < (n : Int) := by omega
      have c0 := cellI hlen hcell hkl
      have c1 := cellI hlen2 hcell2 hkl
      by_cases q0 : (nth 0 l k) = (nth 0 l2 k)
      rotate_left
      · have dq : ((nth 0 l k) == (nth 0 l2 k)) = false := by simp [q0]
        go_wp2
        refine region_plus (by kernel_rfl) (by kernel_rfl) ?_
        (repeat (go_big_quiet_step (fail)))
        refine wpQuiet_nil ?_
        rintro _ ⟨x2, rfl⟩
        go_wp2
        go_ret
        exact ⟨by rw [show sameI l l2 = false from same_not (k := k) (by omega) (by simp [eqI, q0])]; rfl, skB⟩
      go_wp2
      refine region_plus (by kernel_rfl) (by kernel_rfl) ?_
      (repeat (go_big_quiet_step (fail)))
      refine wpQuiet_nil ?_
      rintro _ ⟨x2, rfl⟩
      go_wp2
      go_roundw
      case rel => exact ⟨k + 1, by omega, by go_num, upto_succM hs (by simp [eqI, q0]), skM⟩
      case measure => simp [intOf]; omega
    · have ik : ¬ (k : Int) < (n : Int) := by omega
      go_wp2
      go_ret
      exact ⟨by rw [show sameI l l2 = true from same_all (by omega) (fun j hj => hs j (by omega))]; rfl, skB⟩

set_option maxHeartbeats 2000000 in
theorem equalV_calls (ao ao2 : Option Addr) (n n2 cap cap2 : Nat) (l l2 : List V3) (w : World) (hl : Lay fV w ao n l) (hl2 : Lay fV w ao2 n2 l2) (hn : n ≤ 10000) (hn2 : n2 ≤ 10000) :
    Calls Tryz.prog 107 #[.slice ao n cap, .slice ao2 n2 cap2] w fun e w' => e = .returned (.bool (sameV l l2)) ∧ Below w.heap.size w w' := by
  have hlen := hl.len
  have hlen2 := hl2.len
  by_cases hne : n = n2
  rotate_left
  · rw [show sameV l l2 = false from same_len (by omega)]
    have ine : ¬ (n : Int) = (n2 : Int) := by omega
    have dne : ((n : Int) == (n2 : Int)) = false := by rw [beq_eq_false_iff_ne]; omega
    go_enter Tryz.func107, Tryz.ntmps107
    go_wp2
    go_ret
    exact ⟨rfl, skB⟩
  subst hne
  go_enter Tryz.func107, Tryz.ntmps107
  go_wp2
  go_loopw [13] (fun i wr => ∃ k : Nat, k ≤ n ∧ i = .int .i64 k ∧ (∀ j, j < k → eqV (nth zeroV l j) (nth zeroV l2 j) = true) ∧ ∃ x, wr = plus w x) (fun i _ => n - (intOf i).toNat)
  case atStart => exact ⟨0, Nat.zero_le _, rfl, fun j hj => by omega, skM⟩
  case round =>
    obtain ⟨k, hk, rfl, hs, x, rfl⟩ := hrel
    by_cases hkl : k < n
    · obtain ⟨g, off, rfl, hg, hcell⟩ := hl.some (by omega)
      obtain ⟨g2, off2, rfl, hg2, hcell2⟩ := hl2.some (by omega)
      have ik : (k : Int) < (n : Int) := by omega
      obtain ⟨c0, c1, c2⟩ := cellV hlen hcell hkl
      obtain ⟨d0, d1, d2⟩ := cellV hlen2 hcell2 hkl
      by_cases q0 : (nth zeroV l k).x = (nth zeroV l2 k).x
      rotate_left
      · have dq : ((nth zeroV l k).x == (nth zeroV l2 k).x) = false := by simp [q0]
        go_wp2
        refine region_plus (by kernel_rfl) (by kernel_rfl) ?_
        (repeat (go_big_quiet_step (fail)))
        refine wpQuiet_nil ?_
        rintro _ ⟨x2, rfl⟩
        go_wp2
        go_ret
        exact ⟨by rw [show sameV l l2 = false from same_not (k := k) (by omega) (by simp [eqV, q0])]; rfl, skB⟩
      by_cases q1 : (nth zeroV l k).y = (nth zeroV l2 k).y
      rotate_left
      · have dq : ((nth zeroV l k).y == (nth zeroV l2 k).y) = false := by simp [q1]
        go_wp2
        refine region_plus (by kernel_rfl) (by kernel_rfl) ?_
        (repeat (go_big_quiet_step (fail)))
        refine wpQuiet_nil ?_
        rintro _ ⟨x2, rfl⟩
        go_wp2
        go_ret
        exact ⟨by rw [show sameV l l2 = false from same_not (k := k) (by omega) (by simp [eqV, q1])]; rfl, skB⟩
      by_cases q2 : (nth zeroV l k).z = (nth zeroV l2 k).z
      rotate_left
      · have dq : ((nth zeroV l k).z == (nth zeroV l2 k).z) = false := by simp [q2]
        go_wp2
        refine region_plus (by kernel_rfl) (by kernel_rfl) ?_
        (repeat (go_big_quiet_step (fail)))
        refine wpQuiet_nil ?_
        rintro _ ⟨x2, rfl⟩
        go_wp2
        go_ret
        exact ⟨by rw [show sameV l l2 = false from same_not (k := k) (by omega) (by simp [eqV, q2])]; rfl, skB⟩
      go_wp2
      refine region_plus (by kernel_rfl) (by kernel_rfl) ?_
      (repeat (go_big_quiet_step (fail)))
      refine wpQuiet_nil ?_
      rintro _ ⟨x2, rfl⟩
      go_wp2
      go_roundw
      case rel => exact ⟨k + 1, by omega, by go_num, upto_succM hs (by simp [eqV, q0, q1, q2]), skM⟩
      case measure => simp [intOf]; omega
    · have ik : ¬ (k : Int) < (n : Int) := by omega
      go_wp2
      go_ret
      exact ⟨by rw [show sameV l l2 = true from same_all (by omega) (fun j hj => hs j (by omega))]; rfl, skB⟩

set_option maxHeartbeats 2000000 in
theorem equal2_calls (ao ao2 : Option Addr) (n n2 cap cap2 : Nat) (l l2 : List (Int × Int)) (w : World) (hl : Lay f2 w ao n l) (hl2 : Lay f2 w ao2 n2 l2) (hn : n ≤ 10000) (hn2 : n2 ≤ 10000) :
    Calls Tryz.prog 108 #[.slice ao n cap, .slice ao2 n2 cap2] w fun e w' => e = .returned (.bool (same2 l l2)) ∧ Below w.heap.size w w' := by
  have hlen := hl.len
  have hlen2 := hl2.len
  by_cases hne : n = n2
  rotate_left
  · rw [show same2 l l2 = false from same_len (by omega)]
    have ine : ¬ (n : Int) = (n2 : Int) := by omega
    have dne : ((n : Int) == (n2 : Int)) = false := by rw [beq_eq_false_iff_ne]; omega
    go_enter Tryz.func108, Tryz.ntmps108
    go_wp2
    go_ret
    exact ⟨rfl, skB⟩
  subst hne
  go_enter Tryz.func108, Tryz.ntmps108
  go_wp2
  go_loopw [13] (fun i wr => ∃ k : Nat, k ≤ n ∧ i = .int .i64 k ∧ (∀ j, j < k → eq2 (nth (0, 0) l j) (nth (0, 0) l2 j) = true) ∧ ∃ x, wr = plus w x) (fun i _ => n - (intOf i).toNat)
  case atStart => exact ⟨0, Nat.zero_le _, rfl, fun j hj => by omega, skM⟩
  case round =>
    obtain ⟨k, hk, rfl, hs, x, rfl⟩ := hrel
    by_cases hkl : k < n
    · obtain ⟨g, off, rfl, hg, hcell⟩ := hl.some (by omega)
      obtain ⟨g2, off2, rfl, hg2, hcell2⟩ := hl2.some (by omega)
      have ik : (k : Int) < (n : Int) := by omega
      obtain ⟨c0, c1⟩ := cell2 hlen hcell hkl
      obtain ⟨d0, d1⟩ := cell2 hlen2 hcell2 hkl
      by_cases q0 : (nth (0, 0) l k).1 = (nth (0, 0) l2 k).1
      rotate_left
      · have dq : ((nth (0, 0) l k).1 == (nth (0, 0) l2 k).1) = false := by simp [q0]
        go_wp2
        refine region_plus (by kernel_rfl) (by kernel_rfl) ?_
        (repeat (go_big_quiet_step (fail)))
        refine wpQuiet_nil ?_
        rintro _ ⟨x2, rfl⟩
        go_wp2
        go_ret
        exact ⟨by rw [show same2 l l2 = false from same_not (k := k) (by omega) (by simp [eq2, q0])]; rfl, skB⟩
      by_cases q1 : (nth (0, 0) l k).2 = (nth (0, 0) l2 k).2
      rotate_left
      · have dq : ((nth (0, 0) l k).2 == (nth (0, 0) l2 k).2) = false := by simp [q1]
        go_wp2
        refine region_plus (by kernel_rfl) (by kernel_rfl) ?_
        (repeat (go_big_quiet_step (fail)))
        refine wpQuiet_nil ?_
        rintro _ ⟨x2, rfl⟩
        go_wp2
        go_ret
        exact ⟨by rw [show same2 l l2 = false from same_not (k := k) (by omega) (by simp [eq2, q1])]; rfl, skB⟩
      go_wp2
      refine region_plus (by kernel_rfl) (by kernel_rfl) ?_
      (repeat (go_big_quiet_step (fail)))
      refine wpQuiet_nil ?_
      rintro _ ⟨x2, rfl⟩
      go_wp2
      go_roundw
      case rel => exact ⟨k + 1, by omega, by go_num, upto_succM hs (by simp [eq2, q0, q1]), skM⟩
      case measure => simp [intOf]; omega
    · have ik : ¬ (k : Int) < (n : Int) := by omega
      go_wp2
      go_ret
      exact ⟨by rw [show same2 l l2 = true from same_all (by omega) (fun j hj => hs j (by omega))]; rfl, skB⟩

end

section


open Go.RowKit Go.ChangeShapes Go.WideShapes Go.ChangeAt

set_option linter.unusedSimpArgs false

set_option linter.unusedVariables false

attribute [local go_sem] plus_size plus_drew dn_set dn_alloc dn_plus plus_dn cell_plus frozen_plus set_plus cell_alloc frozen_alloc set_alloc

theorem wrap_le9 {n : Int} (h : 0 ≤ n ∧ n ≤ 9223372036854775807) : IntKind.i64.wrap n = n := by
  simp [IntKind.wrap, IntKind.bits, IntKind.signed]
  omega

theorem ex_more9 {T : World} {x : List More} {d : Nat} : ∃ y, plus T [⟨blocks x, d⟩] = plus (plus T x) y := ⟨[⟨#[], d⟩], by simp [plus, blocks, draws]⟩
theorem sk9 {w w' : World} (h : ∃ y, w' = plus w y := by with_reducible repeat (first | exact ex_refl _ | exact ex_more9 | apply ex_alloc | apply ex_plus | apply ex_drew | apply ex_drewN)) : ∃ y, w' = plus w y := h

theorem tside_calls (n : Int) (w : World) : Calls Tryz.prog 137 #[.int .i64 n] w fun e w' => e = .returned (.bool (side n)) ∧ w' = w := by
  by_cases h0 : 1 ≤ n
  · by_cases h1 : n ≤ 16
    · rw [show side n = true by simp [side, h0, h1]]
      go_enter Tryz.func137, Tryz.ntmps137
      go_wp2
      go_ret
      exact ⟨rfl, rfl⟩
    · rw [show side n = false by simp [side, h1]]
      go_enter Tryz.func137, Tryz.ntmps137
      go_wp2
      go_ret
      exact ⟨rfl, rfl⟩
  · rw [show side n = false by simp [side, h0]]
    go_enter Tryz.func137, Tryz.ntmps137
    go_wp2
    go_ret
    exact ⟨rfl, rfl⟩

theorem tside_is {n : Int} {b : Bool} {w : World} (h : side n = b) : Calls Tryz.prog 137 #[.int .i64 n] w fun e w' => e = .returned (.bool b) ∧ w' = w := h ▸ tside_calls n w

theorem tcheck_calls (W H : Int) (ao : Option Addr) (n cap : Nat) (w : World) : Calls Tryz.prog 78 #[.agg #[.int .i64 W, .int .i64 H, .slice ao n cap]] w fun e w' => e = .returned (.int .i64 (errT W H n)) ∧ ∃ y, w' = plus w y := by
  cases hw : side W
  · rw [show errT W H n = 8 by rw [errT, mayT_side hw]; rfl]
    go_enter Tryz.func78, Tryz.ntmps78
    go_wp2_with (go_at_call 137; refine (tside_is (by first | exact hw | exact hh)).mono ?_; rintro e w' ⟨rfl, ew⟩; obtain rfl := ew.symm)
    go_ret
    exact ⟨rfl, sk9⟩
  cases hh : side H
  · rw [show errT W H n = 8 by rw [errT, mayT_side2 hh]; rfl]
    go_enter Tryz.func78, Tryz.ntmps78
    go_wp2_with (go_at_call 137; refine (tside_is (by first | exact hw | exact hh)).mono ?_; rintro e w' ⟨rfl, ew⟩; obtain rfl := ew.symm)
    go_ret
    exact ⟨rfl, sk9⟩
  have b := mul_le16 (side_iff.1 hw) (side_iff.1 hh)
  have ew : IntKind.i64.wrap (W * H) = W * H := wrap_le9 (by omega)
  have ew2 : wrap64 (W * H) = W * H := by rw [IntWalk.wrap64_in] <;> omega
  by_cases hn : (n : Int) = W * H
  · rw [show errT W H n = 0 by rw [errT, mayT_yes hw hh hn]; rfl]
    have hb : ((n : Int) == W * H) = true := by rw [beq_iff_eq]; exact hn
    go_enter Tryz.func78, Tryz.ntmps78
    go_wp2_with (go_at_call 137; refine (tside_is (by first | exact hw | exact hh)).mono ?_; rintro e w' ⟨rfl, ew⟩; obtain rfl := ew.symm)
    go_ret
    exact ⟨rfl, sk9⟩
  · rw [show errT W H n = 8 by rw [errT, mayT_len hn]; rfl]
    have hb : ((n : Int) == W * H) = false := by rw [beq_eq_false_iff_ne]; exact hn
    go_enter Tryz.func78, Tryz.ntmps78
    go_wp2_with (go_at_call 137; refine (tside_is (by first | exact hw | exact hh)).mono ?_; rintro e w' ⟨rfl, ew⟩; obtain rfl := ew.symm)
    go_ret
    exact ⟨rfl, sk9⟩

end

section


open Go.RowKit Go.ChangeShapes Go.WideShapes Go.ChangeAt

set_option linter.unusedSimpArgs false

set_option linter.unusedVariables false

attribute [local go_sem] plus_size plus_drew dn_set dn_alloc dn_plus plus_dn cell_plus frozen_plus set_plus cell_alloc frozen_alloc set_alloc

structure Hush9 (p : Prop) : Prop where
  it : p

theorem q9_of {P : Program} {f : FuncId} {args : Array Value} {w : World} {x : List More} {v : Value}
    (h : Calls P f args (plus w x) fun e w' => e = .returned v ∧ ∃ y, w' = plus (plus w x) y) : Calls P f args (plus w x) fun e w' => e = .returned v ∧ ∃ y, w' = plus w y :=
  h.mono fun _ _ ⟨he, hb⟩ => ⟨he, ex_trans ⟨x, rfl⟩ hb⟩

theorem upto_succ9 {p : Nat → Prop} {k : Nat} (h : ∀ j, j < k → p j) (hk : p k) : ∀ j, j < k + 1 → p j := by
  intro j hj
  rcases Nat.lt_or_eq_of_le (Nat.le_of_lt_succ hj) with e | e
  · exact h j e
  · exact e ▸ hk

theorem checks_many {hs : List TH} (h : 16 < hs.length) : checksT hs = 4 := if_pos h

theorem checks_bad {hs : List TH} {k : Nat} (h : ¬ 16 < hs.length) (hk : k < hs.length) (hb : mayH (nth th0 hs k) = false) : checksT hs = 8 := by
  rw [checksT, if_neg h, if_neg]
  rw [all_not hk hb]
  decide

theorem checks_good {hs : List TH} (h : ¬ 16 < hs.length) (hb : ∀ k, k < hs.length → mayH (nth th0 hs k) = true) : checksT hs = 0 := by
  rw [checksT, if_neg h, if_pos (all_yes hb)]

theorem err_no {t : TH} (h : mayH t = false) : errT t.w t.h t.n = 8 := by rw [errT, if_neg]; rw [show mayT t.w t.h t.n = false from h]; decide

theorem err_ok {t : TH} (h : mayH t = true) : errT t.w t.h t.n = 0 := by rw [errT, if_pos]; exact h

theorem tcheck_is {W H e : Int} {ao : Option Addr} {n cap : Nat} {w : World} (h : errT W H n = e) : Calls Tryz.prog 78 #[.agg #[.int .i64 W, .int .i64 H, .slice ao n cap]] w fun e' w' => e' = .returned (.int .i64 e) ∧ ∃ y, w' = plus w y := h ▸ tcheck_calls W H ao n cap w

set_option maxHeartbeats 2000000 in
theorem tchecks_calls (ao : Option Addr) (n cap : Nat) (hs : List TH) (w : World) (hl : Lay fTh w ao n hs) (hn : n ≤ 9223372036854775807) :
    Calls Tryz.prog 30 #[.slice ao n cap] w fun e w' => e = .returned (.int .i64 (checksT hs)) ∧ ∃ y, w' = plus w y := by
  have hlen := hl.len
  by_cases hbig : 16 < n
  · rw [checks_many (by omega)]
    have ib : (16 : Int) < (n : Int) := by omega
    go_enter Tryz.func30, Tryz.ntmps30
    go_wp2
    go_ret
    exact ⟨rfl, sk9⟩
  have ib : ¬ (16 : Int) < (n : Int) := by omega
  go_enter Tryz.func30, Tryz.ntmps30
  go_wp2
  go_loopw [11] (fun i wr => ∃ k : Nat, k ≤ n ∧ i = .int .i64 k ∧ (∀ j, j < k → mayH (nth th0 hs j) = true) ∧ ∃ y, wr = plus w y) (fun i _ => n - (intOf i).toNat)
  case atStart => exact ⟨0, Nat.zero_le _, rfl, fun j hj => by omega, sk9⟩
  case round =>
    obtain ⟨k, hk, rfl, hs', y, rfl⟩ := hrel
    by_cases hkl : k < n
    · obtain ⟨g, off, rfl, hg, hcell⟩ := hl.some (by omega)
      obtain ⟨c0, c1, c2⟩ := cellTh hlen hcell hkl
      have ik : (k : Int) < (n : Int) := by omega
      cases hm : mayH (nth th0 hs k)
      · have he := err_no hm
        go_wp2_with (go_at_call 78; refine (tcheck_is he).mono ?_; rintro e w' ⟨rfl, nx, rfl⟩)
        go_ret
        exact ⟨by rw [checks_bad (by omega) (by omega) hm]; rfl, sk9⟩
      · have he := err_ok hm
        go_wp2_with (go_at_call 78; refine (tcheck_is he).mono ?_; rintro e w' ⟨rfl, nx, rfl⟩)
        go_roundw
        case rel => exact ⟨k + 1, by omega, by go_num, upto_succ9 hs' hm, sk9⟩
        case measure => simp [intOf]; omega
    · have ik : ¬ (k : Int) < (n : Int) := by omega
      go_wp2
      go_ret
      exact ⟨by rw [checks_good (by omega) (fun j hj => hs' j (by omega))]; rfl, sk9⟩

theorem tchecks_is {ao : Option Addr} {n cap : Nat} {hs : List TH} {w : World} {k : Int} (h : checksT hs = k) (hl : Lay fTh w ao n hs) (hn : n ≤ 9223372036854775807) :
    Calls Tryz.prog 30 #[.slice ao n cap] w fun e w' => e = .returned (.int .i64 k) ∧ ∃ y, w' = plus w y := h ▸ tchecks_calls ao n cap hs w hl hn

theorem minB9 (a b : Int) : (if b < a then b else a) = min a b := by
  split <;> omega

attribute [local go_sem] minB9

def sumT (l : List TH) : Nat := (l.map fun t => min t.n 100000).sum

def greatT (hs : List TH) : Bool := decide (40 < hs.length) || decide (20000 < sumT (hs.take 100))

theorem sumT_next {hs : List TH} {k : Nat} (hk : k < hs.length) : sumT (hs.take (k + 1)) = sumT (hs.take k) + min (nth th0 hs k).n 100000 := by
  rw [take_nth (d := th0) hk]
  simp [sumT]

theorem sumT_mem {t : TH} : ∀ {l : List TH}, t ∈ l → min t.n 100000 ≤ sumT l
  | [], h => by cases h
  | a :: l, h => by
    have e : sumT (a :: l) = min a.n 100000 + sumT l := by simp [sumT]
    rcases List.mem_cons.1 h with rfl | h
    · omega
    · have := sumT_mem h
      omega

theorem great_noT {hs : List TH} (h : greatT hs = false) : hs.length ≤ 40 ∧ ∀ k, k < hs.length → (nth th0 hs k).n ≤ 20000 := by
  simp only [greatT, Bool.or_eq_false_iff, decide_eq_false_iff_not, Nat.not_lt] at h
  refine ⟨h.1, fun k hk => ?_⟩
  have h2 := h.2
  rw [List.take_of_length_le (by omega)] at h2
  have := sumT_mem (nth_mem (d := th0) hk)
  omega

theorem great_yes {hs : List TH} (h : 40 < hs.length) : greatT hs = true := by simp [greatT, h]

theorem great_sum {hs : List TH} {q : Nat} (h : ¬ 40 < hs.length) (hq : sumT (hs.take hs.length) = q) : greatT hs = decide (20000 < q) := by
  rw [List.take_length] at hq
  rw [greatT, List.take_of_length_le (by omega), hq]
  simp [h]

set_option maxHeartbeats 2000000 in
theorem rgreat9_calls (ao : Option Addr) (n cap : Nat) (hs : List TH) (w : World) (hl : Lay fTh w ao n hs) (hn : n ≤ 9223372036854775807) (hm : ∀ k, k < n → (nth th0 hs k).n ≤ 9223372036854775807) :
    Calls Tryz.prog 33 #[.slice ao n cap] w fun e w' => e = .returned (.bool (greatT hs)) ∧ ∃ y, w' = plus w y := by
  have hlen := hl.len
  go_enter Tryz.func33, Tryz.ntmps33
  go_wp2
  go_loopw [3, 4] (fun s i wr => ∃ k q : Nat, k ≤ n ∧ k ≤ 100 ∧ q ≤ k * 100000 ∧ s = .int .i64 q ∧ i = .int .i64 k ∧ sumT (hs.take k) = q ∧ ∃ y, wr = plus w y) (fun _ i _ => n - (intOf i).toNat)
  case atStart => exact ⟨0, 0, Nat.zero_le _, Nat.zero_le _, Nat.zero_le _, rfl, rfl, rfl, sk9⟩
  case round =>
    obtain ⟨k, q, hk, hk1, hq, rfl, rfl, hs', y, rfl⟩ := hrel
    by_cases hkl : k < n
    · have ik : (k : Int) < (n : Int) := by omega
      by_cases hk2 : k < 100
      · have ik2 : (k : Int) < 100 := by omega
        obtain ⟨g, off, rfl, hg, hcell⟩ := hl.some (by omega)
        obtain ⟨c0, c1, c2⟩ := cellTh hlen hcell hkl
        have hmk := hm k hkl
        obtain ⟨p, hp⟩ : ∃ p : Nat, min (nth th0 hs k).n 100000 = p := ⟨_, rfl⟩
        have em : min ((nth th0 hs k).n : Int) 100000 = (p : Int) := by omega
        go_wp2
        go_roundw
        case rel => exact ⟨k + 1, q + p, by omega, by omega, by omega, by go_num, by go_num, by rw [sumT_next (by omega), hs', hp], sk9⟩
        case measure => simp [intOf]; omega
      · have ik2 : ¬ (k : Int) < 100 := by omega
        have i40 : (40 : Int) < (n : Int) := by omega
        go_wp2
        go_ret
        exact ⟨by rw [great_yes (by omega)]; rfl, sk9⟩
    · have ik : ¬ (k : Int) < (n : Int) := by omega
      obtain rfl : n = k := by omega
      by_cases h40 : 40 < n
      · have i40 : (40 : Int) < (n : Int) := by omega
        go_wp2
        go_ret
        exact ⟨by rw [great_yes (by omega)]; rfl, sk9⟩
      · have i40 : ¬ (40 : Int) < (n : Int) := by omega
        by_cases hq2 : 20000 < q
        · have iq : (20000 : Int) < (q : Int) := by omega
          go_wp2
          go_ret
          exact ⟨by rw [great_sum (q := q) (by omega) (by rw [hlen]; exact hs'), decide_eq_true hq2]; rfl, sk9⟩
        · have iq : ¬ (20000 : Int) < (q : Int) := by omega
          go_wp2
          go_ret
          exact ⟨by rw [great_sum (q := q) (by omega) (by rw [hlen]; exact hs'), decide_eq_false hq2]; rfl, sk9⟩

end

section


open Go.RowKit Go.ChangeShapes Go.WideShapes Go.ChangeAt

set_option linter.unusedSimpArgs false

set_option linter.unusedVariables false

attribute [local go_sem] plus_size plus_drew dn_set dn_alloc dn_plus plus_dn cell_plus frozen_plus set_plus cell_alloc frozen_alloc set_alloc

def farAt (l : List Int) (k : Nat) : Bool := decide (0 ≤ nth 0 l k) && (decide (nth 0 l k ≤ 8192) && (decide (k = 0) || decide (nth 0 l (k - 1) ≤ nth 0 l k)))

def distOk (l : List Int) : Bool := (List.range l.length).all (farAt l) && decide (l.length ≤ 16)

theorem dist_bad {l : List Int} {k : Nat} (hk : k < l.length) (h : farAt l k = false) : distOk l = false := by
  cases h2 : distOk l
  · rfl
  · simp only [distOk, Bool.and_eq_true, List.all_eq_true, List.mem_range] at h2
    rw [h2.1 k hk] at h
    cases h

theorem dist_all {l : List Int} (h : ∀ k, k < l.length → farAt l k = true) : distOk l = decide (l.length ≤ 16) := by
  have : (List.range l.length).all (farAt l) = true := List.all_eq_true.2 fun k hk => h k (List.mem_range.1 hk)
  simp [distOk, this]

def sameNd (a b : Nd) : Bool := decide (a.f.kind = b.f.kind) && (eqmt a.f.m b.f.m && (decide (a.f.on = b.f.on) && (eqv a.f.cen b.f.cen && (sameI a.far b.far && (decide (a.f.mesh = b.f.mesh) && eqsy a.f.sty b.f.sty)))))

theorem sameNd_refl (a : Nd) : sameNd a a = true := by simp [sameNd, eqmt_refl, eqv_refl, eqsy_refl, show sameI a.far a.far = true from same_refl eqI_refl _]

end

section


open Go.RowKit Go.ChangeShapes Go.WideShapes Go.ChangeAt

set_option linter.unusedSimpArgs false

set_option linter.unusedVariables false

attribute [local go_sem] plus_size plus_drew dn_set dn_alloc dn_plus plus_dn cell_plus frozen_plus set_plus cell_alloc frozen_alloc set_alloc

set_option maxRecDepth 100000 in
set_option maxHeartbeats 4000000 in
theorem sameNd_calls (ak am0 am1 am2 am3 am4 am5 am6 am7 am8 am9 am10 am11 ao ac0 ac1 ac2 ae as0 as1 as2 as3 as4 as5 as6 as7 as8 as9 as10 as11 as13 : Int) (as12 : Bool) (aa : Option Addr) (an ax : Nat) (af : List Int) (bk bm0 bm1 bm2 bm3 bm4 bm5 bm6 bm7 bm8 bm9 bm10 bm11 bo bc0 bc1 bc2 be bs0 bs1 bs2 bs3 bs4 bs5 bs6 bs7 bs8 bs9 bs10 bs11 bs13 : Int) (bs12 : Bool) (ba : Option Addr) (bn bx : Nat) (bf : List Int) (w : World) (hl : Lay fI w aa an af) (hl2 : Lay fI w ba bn bf) (hn : an ≤ 10000) (hn2 : bn ≤ 10000) :
    Calls Tryz.prog 24 #[.agg (List.toArray (.int .u8 ak :: .int .i64 am0 :: .int .i64 am1 :: .int .i64 am2 :: .int .i64 am3 :: .int .i64 am4 :: .int .i64 am5 :: .int .i64 am6 :: .int .i64 am7 :: .int .i64 am8 :: .int .i64 am9 :: .int .i64 am10 :: .int .i64 am11 :: .int .u16 ao :: .int .i64 ac0 :: .int .i64 ac1 :: .int .i64 ac2 :: .slice aa an ax :: .int .i64 ae :: .int .u8 as0 :: .int .u8 as1 :: .int .u8 as2 :: .int .u8 as3 :: .int .u8 as4 :: .int .u8 as5 :: .int .u8 as6 :: .int .u8 as7 :: .int .u8 as8 :: .int .i64 as9 :: .int .u8 as10 :: .int .i64 as11 :: .bool as12 :: .int .i64 as13 :: [])), .agg (List.toArray (.int .u8 bk :: .int .i64 bm0 :: .int .i64 bm1 :: .int .i64 bm2 :: .int .i64 bm3 :: .int .i64 bm4 :: .int .i64 bm5 :: .int .i64 bm6 :: .int .i64 bm7 :: .int .i64 bm8 :: .int .i64 bm9 :: .int .i64 bm10 :: .int .i64 bm11 :: .int .u16 bo :: .int .i64 bc0 :: .int .i64 bc1 :: .int .i64 bc2 :: .slice ba bn bx :: .int .i64 be :: .int .u8 bs0 :: .int .u8 bs1 :: .int .u8 bs2 :: .int .u8 bs3 :: .int .u8 bs4 :: .int .u8 bs5 :: .int .u8 bs6 :: .int .u8 bs7 :: .int .u8 bs8 :: .int .i64 bs9 :: .int .u8 bs10 :: .int .i64 bs11 :: .bool bs12 :: .int .i64 bs13 :: []))] w fun e w' => e = .returned (.bool (sameNd ⟨⟨ak, ⟨⟨⟨am0, am1, am2⟩, ⟨am3, am4, am5⟩, ⟨am6, am7, am8⟩⟩, ⟨am9, am10, am11⟩⟩, ao, ⟨ac0, ac1, ac2⟩, ae, ⟨as0, as1, as2, as3, as4, ⟨as5, as6, as7, as8, as9, as10, as11, as12, as13⟩⟩⟩, af⟩ ⟨⟨bk, ⟨⟨⟨bm0, bm1, bm2⟩, ⟨bm3, bm4, bm5⟩, ⟨bm6, bm7, bm8⟩⟩, ⟨bm9, bm10, bm11⟩⟩, bo, ⟨bc0, bc1, bc2⟩, be, ⟨bs0, bs1, bs2, bs3, bs4, ⟨bs5, bs6, bs7, bs8, bs9, bs10, bs11, bs12, bs13⟩⟩⟩, bf⟩)) ∧ ∃ y, w' = plus w y := by
  by_cases hk : ak = bk
  rotate_left
  · rw [show sameNd ⟨⟨ak, ⟨⟨⟨am0, am1, am2⟩, ⟨am3, am4, am5⟩, ⟨am6, am7, am8⟩⟩, ⟨am9, am10, am11⟩⟩, ao, ⟨ac0, ac1, ac2⟩, ae, ⟨as0, as1, as2, as3, as4, ⟨as5, as6, as7, as8, as9, as10, as11, as12, as13⟩⟩⟩, af⟩ ⟨⟨bk, ⟨⟨⟨bm0, bm1, bm2⟩, ⟨bm3, bm4, bm5⟩, ⟨bm6, bm7, bm8⟩⟩, ⟨bm9, bm10, bm11⟩⟩, bo, ⟨bc0, bc1, bc2⟩, be, ⟨bs0, bs1, bs2, bs3, bs4, ⟨bs5, bs6, bs7, bs8, bs9, bs10, bs11, bs12, bs13⟩⟩⟩, bf⟩ = false by simp [sameNd, hk]]
    have dk : (ak == bk) = false := by rw [beq_eq_false_iff_ne]; exact hk
    go_enter Tryz.func24, Tryz.ntmps24
    go_wp2_with (go_at_call 62; refine (plus_post (numbers_callsM _ _ _ _ _ _ af bf _ (hl.ex sk9) (hl2.ex sk9) hn hn2)).mono ?_; rintro e w' ⟨rfl, nx, rfl⟩)
    exact bodyPost_ret (v := .bool false) (by simp [results, Tryz.results24, go_sem]) rfl ⟨rfl, sk9⟩
  subst hk
  cases hm : eqmt ⟨⟨⟨am0, am1, am2⟩, ⟨am3, am4, am5⟩, ⟨am6, am7, am8⟩⟩, ⟨am9, am10, am11⟩⟩ ⟨⟨⟨bm0, bm1, bm2⟩, ⟨bm3, bm4, bm5⟩, ⟨bm6, bm7, bm8⟩⟩, ⟨bm9, bm10, bm11⟩⟩
  · rw [show sameNd ⟨⟨ak, ⟨⟨⟨am0, am1, am2⟩, ⟨am3, am4, am5⟩, ⟨am6, am7, am8⟩⟩, ⟨am9, am10, am11⟩⟩, ao, ⟨ac0, ac1, ac2⟩, ae, ⟨as0, as1, as2, as3, as4, ⟨as5, as6, as7, as8, as9, as10, as11, as12, as13⟩⟩⟩, af⟩ ⟨⟨ak, ⟨⟨⟨bm0, bm1, bm2⟩, ⟨bm3, bm4, bm5⟩, ⟨bm6, bm7, bm8⟩⟩, ⟨bm9, bm10, bm11⟩⟩, bo, ⟨bc0, bc1, bc2⟩, be, ⟨bs0, bs1, bs2, bs3, bs4, ⟨bs5, bs6, bs7, bs8, bs9, bs10, bs11, bs12, bs13⟩⟩⟩, bf⟩ = false by simp [sameNd, hm]]
    have qM := eqM_is hm
    go_enter Tryz.func24, Tryz.ntmps24
    go_wp2_with (go_at_call 62; refine (plus_post (numbers_callsM _ _ _ _ _ _ af bf _ (hl.ex sk9) (hl2.ex sk9) hn hn2)).mono ?_; rintro e w' ⟨rfl, nx, rfl⟩)
    exact bodyPost_ret (v := .bool false) (by simp [results, Tryz.results24, go_sem]) rfl ⟨rfl, sk9⟩
  have qM := eqM_is hm
  by_cases ho : ao = bo
  rotate_left
  · rw [show sameNd ⟨⟨ak, ⟨⟨⟨am0, am1, am2⟩, ⟨am3, am4, am5⟩, ⟨am6, am7, am8⟩⟩, ⟨am9, am10, am11⟩⟩, ao, ⟨ac0, ac1, ac2⟩, ae, ⟨as0, as1, as2, as3, as4, ⟨as5, as6, as7, as8, as9, as10, as11, as12, as13⟩⟩⟩, af⟩ ⟨⟨ak, ⟨⟨⟨bm0, bm1, bm2⟩, ⟨bm3, bm4, bm5⟩, ⟨bm6, bm7, bm8⟩⟩, ⟨bm9, bm10, bm11⟩⟩, bo, ⟨bc0, bc1, bc2⟩, be, ⟨bs0, bs1, bs2, bs3, bs4, ⟨bs5, bs6, bs7, bs8, bs9, bs10, bs11, bs12, bs13⟩⟩⟩, bf⟩ = false by simp [sameNd, ho]]
    have dk : (ao == bo) = false := by rw [beq_eq_false_iff_ne]; exact ho
    go_enter Tryz.func24, Tryz.ntmps24
    go_wp2_with (go_at_call 62; refine (plus_post (numbers_callsM _ _ _ _ _ _ af bf _ (hl.ex sk9) (hl2.ex sk9) hn hn2)).mono ?_; rintro e w' ⟨rfl, nx, rfl⟩)
    exact bodyPost_ret (v := .bool false) (by simp [results, Tryz.results24, go_sem]) rfl ⟨rfl, sk9⟩
  subst ho
  cases hc : eqv ⟨ac0, ac1, ac2⟩ ⟨bc0, bc1, bc2⟩
  · rw [show sameNd ⟨⟨ak, ⟨⟨⟨am0, am1, am2⟩, ⟨am3, am4, am5⟩, ⟨am6, am7, am8⟩⟩, ⟨am9, am10, am11⟩⟩, ao, ⟨ac0, ac1, ac2⟩, ae, ⟨as0, as1, as2, as3, as4, ⟨as5, as6, as7, as8, as9, as10, as11, as12, as13⟩⟩⟩, af⟩ ⟨⟨ak, ⟨⟨⟨bm0, bm1, bm2⟩, ⟨bm3, bm4, bm5⟩, ⟨bm6, bm7, bm8⟩⟩, ⟨bm9, bm10, bm11⟩⟩, ao, ⟨bc0, bc1, bc2⟩, be, ⟨bs0, bs1, bs2, bs3, bs4, ⟨bs5, bs6, bs7, bs8, bs9, bs10, bs11, bs12, bs13⟩⟩⟩, bf⟩ = false by simp [sameNd, hc]]
    have qV := eqV_is hc
    go_enter Tryz.func24, Tryz.ntmps24
    go_wp2_with (go_at_call 62; refine (plus_post (numbers_callsM _ _ _ _ _ _ af bf _ (hl.ex sk9) (hl2.ex sk9) hn hn2)).mono ?_; rintro e w' ⟨rfl, nx, rfl⟩)
    exact bodyPost_ret (v := .bool false) (by simp [results, Tryz.results24, go_sem]) rfl ⟨rfl, sk9⟩
  have qV := eqV_is hc
  cases hf : sameI af bf
  · rw [show sameNd ⟨⟨ak, ⟨⟨⟨am0, am1, am2⟩, ⟨am3, am4, am5⟩, ⟨am6, am7, am8⟩⟩, ⟨am9, am10, am11⟩⟩, ao, ⟨ac0, ac1, ac2⟩, ae, ⟨as0, as1, as2, as3, as4, ⟨as5, as6, as7, as8, as9, as10, as11, as12, as13⟩⟩⟩, af⟩ ⟨⟨ak, ⟨⟨⟨bm0, bm1, bm2⟩, ⟨bm3, bm4, bm5⟩, ⟨bm6, bm7, bm8⟩⟩, ⟨bm9, bm10, bm11⟩⟩, ao, ⟨bc0, bc1, bc2⟩, be, ⟨bs0, bs1, bs2, bs3, bs4, ⟨bs5, bs6, bs7, bs8, bs9, bs10, bs11, bs12, bs13⟩⟩⟩, bf⟩ = false by simp [sameNd, hf]]
    go_enter Tryz.func24, Tryz.ntmps24
    go_wp2_with (go_at_call 62; refine (plus_post (numbers_callsM _ _ _ _ _ _ af bf _ (hl.ex sk9) (hl2.ex sk9) hn hn2)).mono ?_; rintro e w' ⟨rfl, nx, rfl⟩)
    exact bodyPost_ret (v := .bool false) (by simp [results, Tryz.results24, go_sem]) rfl ⟨rfl, sk9⟩
  by_cases he : ae = be
  rotate_left
  · rw [show sameNd ⟨⟨ak, ⟨⟨⟨am0, am1, am2⟩, ⟨am3, am4, am5⟩, ⟨am6, am7, am8⟩⟩, ⟨am9, am10, am11⟩⟩, ao, ⟨ac0, ac1, ac2⟩, ae, ⟨as0, as1, as2, as3, as4, ⟨as5, as6, as7, as8, as9, as10, as11, as12, as13⟩⟩⟩, af⟩ ⟨⟨ak, ⟨⟨⟨bm0, bm1, bm2⟩, ⟨bm3, bm4, bm5⟩, ⟨bm6, bm7, bm8⟩⟩, ⟨bm9, bm10, bm11⟩⟩, ao, ⟨bc0, bc1, bc2⟩, be, ⟨bs0, bs1, bs2, bs3, bs4, ⟨bs5, bs6, bs7, bs8, bs9, bs10, bs11, bs12, bs13⟩⟩⟩, bf⟩ = false by simp [sameNd, he]]
    have dk : (ae == be) = false := by rw [beq_eq_false_iff_ne]; exact he
    go_enter Tryz.func24, Tryz.ntmps24
    go_wp2_with (go_at_call 62; refine (plus_post (numbers_callsM _ _ _ _ _ _ af bf _ (hl.ex sk9) (hl2.ex sk9) hn hn2)).mono ?_; rintro e w' ⟨rfl, nx, rfl⟩)
    exact bodyPost_ret (v := .bool false) (by simp [results, Tryz.results24, go_sem]) rfl ⟨rfl, sk9⟩
  subst he
  cases hs : eqsy ⟨as0, as1, as2, as3, as4, ⟨as5, as6, as7, as8, as9, as10, as11, as12, as13⟩⟩ ⟨bs0, bs1, bs2, bs3, bs4, ⟨bs5, bs6, bs7, bs8, bs9, bs10, bs11, bs12, bs13⟩⟩
  · rw [show sameNd ⟨⟨ak, ⟨⟨⟨am0, am1, am2⟩, ⟨am3, am4, am5⟩, ⟨am6, am7, am8⟩⟩, ⟨am9, am10, am11⟩⟩, ao, ⟨ac0, ac1, ac2⟩, ae, ⟨as0, as1, as2, as3, as4, ⟨as5, as6, as7, as8, as9, as10, as11, as12, as13⟩⟩⟩, af⟩ ⟨⟨ak, ⟨⟨⟨bm0, bm1, bm2⟩, ⟨bm3, bm4, bm5⟩, ⟨bm6, bm7, bm8⟩⟩, ⟨bm9, bm10, bm11⟩⟩, ao, ⟨bc0, bc1, bc2⟩, ae, ⟨bs0, bs1, bs2, bs3, bs4, ⟨bs5, bs6, bs7, bs8, bs9, bs10, bs11, bs12, bs13⟩⟩⟩, bf⟩ = false by simp [sameNd, hs]]
    have qS := eqSy_is hs
    go_enter Tryz.func24, Tryz.ntmps24
    go_wp2_with (go_at_call 62; refine (plus_post (numbers_callsM _ _ _ _ _ _ af bf _ (hl.ex sk9) (hl2.ex sk9) hn hn2)).mono ?_; rintro e w' ⟨rfl, nx, rfl⟩)
    exact bodyPost_ret (v := .bool false) (by simp [results, Tryz.results24, go_sem]) rfl ⟨rfl, sk9⟩
  have qS := eqSy_is hs
  rw [show sameNd ⟨⟨ak, ⟨⟨⟨am0, am1, am2⟩, ⟨am3, am4, am5⟩, ⟨am6, am7, am8⟩⟩, ⟨am9, am10, am11⟩⟩, ao, ⟨ac0, ac1, ac2⟩, ae, ⟨as0, as1, as2, as3, as4, ⟨as5, as6, as7, as8, as9, as10, as11, as12, as13⟩⟩⟩, af⟩ ⟨⟨ak, ⟨⟨⟨bm0, bm1, bm2⟩, ⟨bm3, bm4, bm5⟩, ⟨bm6, bm7, bm8⟩⟩, ⟨bm9, bm10, bm11⟩⟩, ao, ⟨bc0, bc1, bc2⟩, ae, ⟨bs0, bs1, bs2, bs3, bs4, ⟨bs5, bs6, bs7, bs8, bs9, bs10, bs11, bs12, bs13⟩⟩⟩, bf⟩ = true by simp [sameNd, hm, hc, hf, hs]]
  go_enter Tryz.func24, Tryz.ntmps24
  go_wp2_with (go_at_call 62; refine (plus_post (numbers_callsM _ _ _ _ _ _ af bf _ (hl.ex sk9) (hl2.ex sk9) hn hn2)).mono ?_; rintro e w' ⟨rfl, nx, rfl⟩)
  exact bodyPost_ret (v := .bool true) (by simp [results, Tryz.results24, go_sem]) rfl ⟨rfl, sk9⟩

end

end Go.Proofs.YtcekcihijdipoaaGreat
