/- What with and Bytes give. -/
import Derived.Test.YthlklooaljaedaaBy1
import Derived.Test.YthlklooaljaedaaByLay
namespace Go.Proofs.Ythlklooaljaedaa
open Go.RowKit Go.ChangeShapes Go.WideShapes Go.ChangeAt
set_option linter.unusedSimpArgs false
set_option linter.unusedVariables false
attribute [local go_sem] plus_size plus_drew dn_set dn_alloc dn_plus plus_dn cell_plus frozen_plus set_plus cell_alloc frozen_alloc set_alloc

theorem info_parts8 {P : Program} {e : TypeId} {z : Value} {c b : Nat} (h : (P.info? e).map (fun i => (i.zero, i.size, i.bytes)) = some (some z, c, b)) (hc : z.cells.size = c) : ∃ i z, P.info? e = some i ∧ i.zero = some z ∧ i.size = c ∧ i.bytes = b ∧ z.cells.size = c := by
  obtain ⟨i0, hi, hz0, hz1, hz2⟩ := info_parts h
  exact ⟨i0, z, hi, hz0, hz1, hz2, hc⟩
theorem kinU : Kin Try.prog 22 5 1 1 := ⟨Try.underlying22, info_parts8 (z := .int .u8 0) (by kernel_rfl) rfl, by decide⟩
theorem kinI8 : Kin Try.prog 26 3 1 8 := ⟨Try.underlying26, info_parts8 (z := .int .i64 0) (by kernel_rfl) rfl, by decide⟩

theorem with_calls (T w : World) (ao : Option Addr) (n cap : Nat) (l : List Int) (x : Int) (hT : ∃ y, w = plus T y) (hown : Own 5 1 fU T w ao n cap l) (hx : canB x = true) (hn : n ≤ 1000000) :
    Calls Try.prog 19 #[.slice ao n cap, .int .i64 x] w fun e w' => ∃ ao' cap', e = .returned (.slice ao' (n + (bytesOf x).length) cap') ∧ (∃ y, w' = plus T y) ∧ Own 5 1 fU T w' ao' (n + (bytesOf x).length) cap' (l ++ bytesOf x) := by
  have hlen := bytesOf_len hx
  go_enter Try.func19, Try.ntmps19
  go_wp2_with (go_at_call 25; refine (rankOf_calls _ _ hx).mono ?_; rintro e w' ⟨rfl, ew⟩; obtain rfl := ew.symm)
  go_loopw [0, 5] (fun b r wr => ∃ (rr : Nat) (pre : List Int) (ao' : Option Addr) (cap' : Nat), b = .slice ao' (n + pre.length) cap' ∧ r = .int .i64 rr ∧ bytesOf x = pre ++ enc rr ∧ (∃ y, wr = plus T y) ∧ Own 5 1 fU T wr ao' (n + pre.length) cap' (l ++ pre)) (fun _ r _ => (intOf r).toNat)
  case atStart => exact ⟨rk x, [], ao, cap, rfl, rfl, rfl, hT, by rw [List.append_nil]; exact hown⟩
  case round =>
    obtain ⟨rr, pre, ao', cap', rfl, rfl, hb, ⟨y, rfl⟩, hown'⟩ := hrel
    have hpl : pre.length ≤ 6 := by rw [hb, List.length_append] at hlen; omega
    by_cases hr : rr < 128
    · have ir : ¬ 128 ≤ (rr : Int) := by omega
      have e1 : (rr : Int) % 256 = (rr : Int) := by omega
      have e2 : IntKind.u8.wrap (rr : Int) = (rr : Int) := by rw [IntKind.wrap_u8']; exact e1
      rw [enc, if_pos hr] at hb
      go_wp2_with (at_builtin; refine wpList_append_far (T := T) rfl _ _ rfl kinU fU_c fU_1 rfl (by with_reducible repeat (first | exact ex_refl _ | exact ex_more8 | apply ex_alloc | apply ex_plus | apply ex_drew | apply ex_drewN)) (hown'.ex (by with_reducible repeat (first | exact ex_refl _ | exact ex_more8 | apply ex_alloc | apply ex_plus | apply ex_drew | apply ex_drewN))) rfl (l2 := [(rr : Int)]) ⟨rfl, .inr ⟨_, 0, rfl, by simp [go_sem]; try omega, fun jj u hu => by match jj, hu with | 0, hu => (simp [fU] at hu; subst hu; simp [go_sem, ↓IntWalk.iteOmega]) | jj + 1, hu => simp [fU] at hu⟩⟩ (by omega) (by decide) ?_; intro ao2 cap2 y2 hown2)
      go_ret
      exact ⟨ao2, cap2, rfl, (by with_reducible repeat (first | exact ex_refl _ | exact ex_more8 | apply ex_alloc | apply ex_plus | apply ex_drew | apply ex_drewN)), by rw [← Nat.add_assoc, ← List.append_assoc]; exact hown2.ex (by with_reducible repeat (first | exact ex_refl _ | exact ex_more8 | apply ex_alloc | apply ex_plus | apply ex_drew | apply ex_drewN))⟩
    · have ir : 128 ≤ (rr : Int) := by omega
      rw [enc, if_neg hr] at hb
      have em : bits .or .u8 ((rr : Int) % 256) 128 = ((rr % 128 + 128 : Nat) : Int) := u8_more
      go_wp2_with (at_builtin; refine wpList_append_far (T := T) rfl _ _ rfl kinU fU_c fU_1 rfl (by with_reducible repeat (first | exact ex_refl _ | exact ex_more8 | apply ex_alloc | apply ex_plus | apply ex_drew | apply ex_drewN)) (hown'.ex (by with_reducible repeat (first | exact ex_refl _ | exact ex_more8 | apply ex_alloc | apply ex_plus | apply ex_drew | apply ex_drewN))) rfl (l2 := [((rr % 128 + 128 : Nat) : Int)]) ⟨rfl, .inr ⟨_, 0, rfl, by simp [go_sem]; try omega, fun jj u hu => by match jj, hu with | 0, hu => (simp [fU] at hu; subst hu; simp [go_sem, ↓IntWalk.iteOmega]) | jj + 1, hu => simp [fU] at hu⟩⟩ (by omega) (by decide) ?_; intro ao2 cap2 y2 hown2)
      go_roundw
      case rel =>
        refine ⟨rr / 128, pre ++ [((rr % 128 + 128 : Nat) : Int)], ao2, cap2, by rw [List.length_append]; rfl, by go_num, by rw [List.append_assoc]; exact hb, (by with_reducible repeat (first | exact ex_refl _ | exact ex_more8 | apply ex_alloc | apply ex_plus | apply ex_drew | apply ex_drewN)), ?_⟩
        rw [List.length_append, ← List.append_assoc]
        exact hown2.ex (by with_reducible repeat (first | exact ex_refl _ | exact ex_more8 | apply ex_alloc | apply ex_plus | apply ex_drew | apply ex_drewN))
      case measure => simp [intOf]; omega

theorem rbytes_calls (w : World) (x : Int) (hx : canB x = true) :
    Calls Try.prog 23 #[.int .i64 x] w fun e w' => ∃ ao' cap', e = .returned (.slice ao' (bytesOf x).length cap') ∧ (∃ y, w' = plus w y) ∧ Own 5 1 fU w w' ao' (bytesOf x).length cap' (bytesOf x) := by
  have hlen := bytesOf_len hx
  go_enter Try.func23, Try.ntmps23
  go_wp2_with (go_at_call 26; refine (rrank_calls _ _ hx).mono ?_; rintro e w' ⟨rfl, ew⟩; obtain rfl := ew.symm)
  go_loopw [3, 4] (fun b r wr => ∃ (rr : Nat) (pre : List Int) (ao' : Option Addr) (cap' : Nat), b = .slice ao' pre.length cap' ∧ r = .int .i64 rr ∧ rr ≤ 2199023255552 ∧ bytesOf x = pre ++ enc rr ∧ (∃ y, wr = plus w y) ∧ Own 5 1 fU w wr ao' pre.length cap' pre) (fun _ r _ => (intOf r).toNat)
  case atStart => exact ⟨rk x, [], none, 0, rfl, rfl, rk_le hx, rfl, (by with_reducible repeat (first | exact ex_refl _ | exact ex_more8 | apply ex_alloc | apply ex_plus | apply ex_drew | apply ex_drewN)), own_nil⟩
  case round =>
    obtain ⟨rr, pre, ao', cap', rfl, rfl, hrr, hb, ⟨y, rfl⟩, hown'⟩ := hrel
    have hpl : pre.length ≤ 6 := by rw [hb, List.length_append] at hlen; omega
    by_cases hr : rr < 128
    · have ir : ¬ 128 ≤ (rr : Int) := by omega
      have e1 : (rr : Int) % 256 = (rr : Int) := by omega
      have e2 : IntKind.u8.wrap (rr : Int) = (rr : Int) := by rw [IntKind.wrap_u8']; exact e1
      rw [enc, if_pos hr] at hb
      go_wp2_with (at_builtin; refine wpList_append_far (T := w) rfl _ _ rfl kinU fU_c fU_1 rfl (by with_reducible repeat (first | exact ex_refl _ | exact ex_more8 | apply ex_alloc | apply ex_plus | apply ex_drew | apply ex_drewN)) (hown'.ex (by with_reducible repeat (first | exact ex_refl _ | exact ex_more8 | apply ex_alloc | apply ex_plus | apply ex_drew | apply ex_drewN))) rfl (l2 := [(rr : Int)]) ⟨rfl, .inr ⟨_, 0, rfl, by simp [go_sem]; try omega, fun jj u hu => by match jj, hu with | 0, hu => (simp [fU] at hu; subst hu; simp [go_sem, ↓IntWalk.iteOmega]) | jj + 1, hu => simp [fU] at hu⟩⟩ (by omega) (by decide) ?_; intro ao2 cap2 y2 hown2)
      go_ret
      exact ⟨ao2, cap2, rfl, (by with_reducible repeat (first | exact ex_refl _ | exact ex_more8 | apply ex_alloc | apply ex_plus | apply ex_drew | apply ex_drewN)), hown2.ex (by with_reducible repeat (first | exact ex_refl _ | exact ex_more8 | apply ex_alloc | apply ex_plus | apply ex_drew | apply ex_drewN))⟩
    · have ir : 128 ≤ (rr : Int) := by omega
      rw [enc, if_neg hr] at hb
      have iq : wrap64 ((rr : Int) / 128) = (rr : Int) / 128 := wrap64_of (by omega) (by omega)
      go_wp2_with (at_builtin; refine wpList_append_far (T := w) rfl _ _ rfl kinU fU_c fU_1 rfl (by with_reducible repeat (first | exact ex_refl _ | exact ex_more8 | apply ex_alloc | apply ex_plus | apply ex_drew | apply ex_drewN)) (hown'.ex (by with_reducible repeat (first | exact ex_refl _ | exact ex_more8 | apply ex_alloc | apply ex_plus | apply ex_drew | apply ex_drewN))) rfl (l2 := [((rr % 128 + 128 : Nat) : Int)]) ⟨rfl, .inr ⟨_, 0, rfl, by simp [go_sem]; try omega, fun jj u hu => by match jj, hu with | 0, hu => (simp [fU] at hu; subst hu; simp [go_sem, ↓IntWalk.iteOmega]) | jj + 1, hu => simp [fU] at hu⟩⟩ (by omega) (by decide) ?_; intro ao2 cap2 y2 hown2)
      go_roundw
      case rel =>
        refine ⟨rr / 128, pre ++ [((rr % 128 + 128 : Nat) : Int)], ao2, cap2, by rw [List.length_append]; rfl, by go_num, by omega, by rw [List.append_assoc]; exact hb, (by with_reducible repeat (first | exact ex_refl _ | exact ex_more8 | apply ex_alloc | apply ex_plus | apply ex_drew | apply ex_drewN)), ?_⟩
        rw [List.length_append]
        exact hown2.ex (by with_reducible repeat (first | exact ex_refl _ | exact ex_more8 | apply ex_alloc | apply ex_plus | apply ex_drew | apply ex_drewN))
      case measure => simp [intOf]; omega

end Go.Proofs.Ythlklooaljaedaa
