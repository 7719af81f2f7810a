/- A pack of texts: EdSpoil, EdFew, ByMath, ByLay, EdOpen, Open2, EdOpen2, EdOpen3. -/
import Derived.Laws.BitsAllLaws
import Derived.Laws.BytesString
import Derived.OpenShut
import Derived.Laws.MakeOwn
import Derived.Test.YtcekcihijdipoaaGreatProg
import Derived.Test.YtcekcihijdipoaaGreatPM23
import Derived.Test.YtcekcihijdipoaaGreatPM6
import Derived.Test.YtcekcihijdipoaaGreatPM17
import Derived.Test.YtcekcihijdipoaaGreatPM20
import Derived.Test.YtcekcihijdipoaaGreatPM21
import Derived.Test.YtcekcihijdipoaaGreatPM22
import Derived.Test.YtcekcihijdipoaaGreatPM12
import Derived.Test.YtcekcihijdipoaaGreatPM1
import Derived.Test.YtcekcihijdipoaaGreatPM4
namespace Go.Proofs.YtcekcihijdipoaaGreat

section


open Go.RowKit Go.ChangeShapes Go.WideShapes Go.ChangeAt

set_option linter.unusedSimpArgs false

set_option linter.unusedVariables false

attribute [local go_sem] plus_size plus_drew dn_set dn_alloc dn_plus plus_dn cell_plus frozen_plus set_plus cell_alloc frozen_alloc set_alloc

theorem lay_at2 {α : Type} {f : α → List Value} {w : World} {g off n : Nat} {l : List α} (h : Lay f w (some ⟨g, off, none⟩) n l) (hn : 0 < n) : ∀ j u, (l.flatMap f)[j]? = some u → w.cell? ⟨g, off + j, none⟩ = some u := by
  obtain ⟨g', o', e, _, h2⟩ := h.some hn
  cases e
  exact h2

set_option maxRecDepth 100000 in
set_option maxHeartbeats 16000000 in
theorem spoil10_calls (T : World) (h : SH) (x : SX) (s : Sc) (w : World) (hx : ∃ y, w = plus T y) (hO : ScOwn T w h x s) (f : FewSc s) : Calls Tryz.prog 21 #[vS h] w fun e w' => e = .returned (.tuple #[]) ∧ ∃ y, w' = plus T y := by
  have f1 := f.nn
  have f2 := f.ks
  have f3 := f.mn
  have f4 := f.tn
  have ns := hO.ns
  have nl := hO.nl
  have gk := hO.g.kh
  have gr := hO.g.row
  have glen := hO.g.len
  have ml := hO.ml
  have ms := hO.ms
  have tl := hO.tl
  have ts := hO.ts
  have nlen := hO.nlen
  have mlen := hO.mlen
  have tlen := hO.tlen
  obtain ⟨ga, gn, gc, ka, kn, kc, na, nn, nc, ma, mn, mc, ta, tn, tc, r0, r1⟩ := h
  simp only at nl gk ml tl
  have n1 := nl.1
  have k1 := gk.1
  have m1 := ml.1
  have t1 := tl.1
  unfold vS
  simp only
  clear hO
  go_enter Tryz.func21, Tryz.ntmps21
  go_upto_region 1 with fail
  refine name_w (fun w' => (∃ y, w' = plus w y) ∧ w'.heap[w.heap.size]? = some (.cells #[.slice ga gn gc, .slice ka kn kc, .slice na nn nc, .slice ma mn mc, .slice ta tn tc, .int .i64 r0, .int .i64 r1] 34)) ⟨(by with_reducible repeat (first | exact ex_refl _ | exact ex_more9 | apply ex_alloc | apply ex_plus | apply ex_drew | apply ex_drewN)), blk_new2 _ _⟩ ?_
  rintro w0 ⟨x0, kb⟩
  obtain ⟨b, hb⟩ : ∃ b, w.heap.size = b := ⟨_, rfl⟩
  simp only [hb] at kb ⊢
  have c0 := cell_blk (i := 0) kb rfl
  have c1 := cell_blk (i := 1) kb rfl
  have c2 := cell_blk (i := 2) kb rfl
  have c3 := cell_blk (i := 3) kb rfl
  have c4 := cell_blk (i := 4) kb rfl
  have hS := SpW.start (ex_trans hx x0)
  go_wp2
  go_loopw [2] (fun i_ wr => ∃ i : Nat, i ≤ nn ∧ i_ = .int .i64 i ∧ SpW T w0 wr) (fun i_ _ => nn - (intOf i_).toNat)
  case atStart => exact ⟨0, Nat.zero_le _, rfl, hS⟩
  case round =>
    clear hS
    obtain ⟨i, hi, rfl, hS⟩ := hrel
    have d0 := hS.cell kb c0 (.inl ⟨by decide, by decide⟩)
    have d1 := hS.cell kb c1 (.inl ⟨by decide, by decide⟩)
    have d2 := hS.cell kb c2 (.inl ⟨by decide, by decide⟩)
    have d3 := hS.cell kb c3 (.inl ⟨by decide, by decide⟩)
    have d4 := hS.cell kb c4 (.inl ⟨by decide, by decide⟩)
    have lb := cell_lt d0
    by_cases hil : i < nn
    · have ii : (i : Int) < (nn : Int) := by omega
      have own := ((ns i (by omega)).far).ex x0
      obtain ⟨gN, cN, eN, hgN, hbN, hzN⟩ := (nl.ex x0).blk (by omega)
      cases eN
      have hh : w0.cell? ⟨gN, i * 33 + 17, none⟩ = some (.slice (nth nh0 x.nh i).ao (nth nh0 x.nh i).n (nth nh0 x.nh i).cap) := by have h9 := lay_part (d := nh0) (nl.1) fN_c (lay_at2 (nl.ex x0).lay (by omega)) hil 17 _ rfl; rw [Nat.zero_add] at h9; exact h9
      have own1 := own.1
      have fw := f.ns i (by omega); unfold FewNd at fw
      have hn : ((nth nh0 x.nh i).n) ≤ 20000 := by omega
      obtain ⟨ra, hra⟩ : ∃ a, (nth nh0 x.nh i).ao = a := ⟨_, rfl⟩
      obtain ⟨rn, hrn⟩ : ∃ a, (nth nh0 x.nh i).n = a := ⟨_, rfl⟩
      obtain ⟨rc, hrc⟩ : ∃ a, (nth nh0 x.nh i).cap = a := ⟨_, rfl⟩
      rw [hra, hrn, hrc] at own hh
      rw [hrn] at hn own1
      clear hra hrn hrc fw
      have hc := hS.cell hbN hh (.inr ⟨rfl, by omega⟩)
      go_wp2
      go_loopw [3] (fun k_ wr => ∃ k : Nat, k ≤ rn ∧ k_ = .int .i64 k ∧ SpW T w0 wr) (fun k_ _ => rn - (intOf k_).toNat)
      case atStart => exact ⟨0, Nat.zero_le _, rfl, hS⟩
      case round =>
        clear hS hc lb d0 d1 d2 d3 d4
        obtain ⟨k, hk, rfl, hS⟩ := hrel
        have d0 := hS.cell kb c0 (.inl ⟨by decide, by decide⟩)
        have d1 := hS.cell kb c1 (.inl ⟨by decide, by decide⟩)
        have d2 := hS.cell kb c2 (.inl ⟨by decide, by decide⟩)
        have d3 := hS.cell kb c3 (.inl ⟨by decide, by decide⟩)
        have d4 := hS.cell kb c4 (.inl ⟨by decide, by decide⟩)
        have lb := cell_lt d0
        have hc := hS.cell hbN hh (.inr ⟨rfl, by omega⟩)
        by_cases hkl : k < rn
        · have ik : (k : Int) < (rn : Int) := by omega
          obtain ⟨gC, cC, eC, hgC, hbC, hzC⟩ := own.blk (by omega)
          cases eC
          obtain ⟨⟨cR, kR⟩, ⟨u, hu⟩, hz⟩ := hS.any (i := k) hbC (by omega)
          go_wp2
          go_roundw
          case rel => exact ⟨k + 1, by omega, by go_num, hS.step kR hgC (.inl (by decide))⟩
          case measure => simp [intOf]; omega
        · have ik : ¬ (k : Int) < (rn : Int) := by omega
          obtain ⟨⟨cR, kR⟩, ⟨u, hu⟩, hz⟩ := hS.any (i := i * 33) hbN (by omega)
          go_wp2
          go_roundw
          case rel => exact ⟨i + 1, by omega, by go_num, hS.step kR hgN (.inr ⟨rfl, by omega⟩)⟩
          case measure => simp [intOf]; omega
    · have ii : ¬ (i : Int) < (nn : Int) := by omega
      go_wp2
      go_loopw [4] (fun i_ wr => ∃ i : Nat, i ≤ kn ∧ i_ = .int .i64 i ∧ SpW T w0 wr) (fun i_ _ => kn - (intOf i_).toNat)
      case atStart => exact ⟨0, Nat.zero_le _, rfl, hS⟩
      case round =>
        clear hS
        obtain ⟨i, hi, rfl, hS⟩ := hrel
        have d0 := hS.cell kb c0 (.inl ⟨by decide, by decide⟩)
        have d1 := hS.cell kb c1 (.inl ⟨by decide, by decide⟩)
        have d2 := hS.cell kb c2 (.inl ⟨by decide, by decide⟩)
        have d3 := hS.cell kb c3 (.inl ⟨by decide, by decide⟩)
        have d4 := hS.cell kb c4 (.inl ⟨by decide, by decide⟩)
        have lb := cell_lt d0
        by_cases hil : i < kn
        · have ii : (i : Int) < (kn : Int) := by omega
          have own := (gr i (by omega)).ex x0
          obtain ⟨gN, cN, eN, hgN, hbN, hzN⟩ := (gk.ex x0).blk (by omega)
          cases eN
          have hh : w0.cell? ⟨gN, i * 1 + 0, none⟩ = some (.slice (nth dRH x.gr i).ao (nth dRH x.gr i).n (nth dRH x.gr i).cap) := by have h9 := lay_part (d := dRH) (gk.1) fR_c (lay_at2 (gk.ex x0).lay (by omega)) hil 0 _ rfl; rw [Nat.zero_add] at h9; exact h9
          have own1 := own.1
          have fw := f.row i (by omega)
          have hn : ((nth dRH x.gr i).n) ≤ 20000 := by omega
          obtain ⟨ra, hra⟩ : ∃ a, (nth dRH x.gr i).ao = a := ⟨_, rfl⟩
          obtain ⟨rn, hrn⟩ : ∃ a, (nth dRH x.gr i).n = a := ⟨_, rfl⟩
          obtain ⟨rc, hrc⟩ : ∃ a, (nth dRH x.gr i).cap = a := ⟨_, rfl⟩
          rw [hra, hrn, hrc] at own hh
          rw [hrn] at hn own1
          clear hra hrn hrc fw
          have hc := hS.cell hbN hh (.inl ⟨by decide, by decide⟩)
          rw [Nat.add_zero] at hc
          rw [Nat.mul_one] at hc
          go_wp2
          go_loopw [5] (fun k_ wr => ∃ k : Nat, k ≤ rn ∧ k_ = .int .i64 k ∧ SpW T w0 wr) (fun k_ _ => rn - (intOf k_).toNat)
          case atStart => exact ⟨0, Nat.zero_le _, rfl, hS⟩
          case round =>
            clear hS hc lb d0 d1 d2 d3 d4
            obtain ⟨k, hk, rfl, hS⟩ := hrel
            have d0 := hS.cell kb c0 (.inl ⟨by decide, by decide⟩)
            have d1 := hS.cell kb c1 (.inl ⟨by decide, by decide⟩)
            have d2 := hS.cell kb c2 (.inl ⟨by decide, by decide⟩)
            have d3 := hS.cell kb c3 (.inl ⟨by decide, by decide⟩)
            have d4 := hS.cell kb c4 (.inl ⟨by decide, by decide⟩)
            have lb := cell_lt d0
            have hc := hS.cell hbN hh (.inl ⟨by decide, by decide⟩)
            rw [Nat.add_zero] at hc
            rw [Nat.mul_one] at hc
            by_cases hkl : k < rn
            · have ik : (k : Int) < (rn : Int) := by omega
              obtain ⟨gC, cC, eC, hgC, hbC, hzC⟩ := own.blk (by omega)
              cases eC
              obtain ⟨⟨cR, kR⟩, ⟨u, hu⟩, hz⟩ := hS.any (i := k * 2 + 1) hbC (by omega)
              go_wp2
              go_roundw
              case rel => exact ⟨k + 1, by omega, by go_num, hS.step kR hgC (.inl (by decide))⟩
              case measure => simp [intOf]; omega
            · have ik : ¬ (k : Int) < (rn : Int) := by omega
              go_wp2
              go_roundw
              case rel => exact ⟨i + 1, by omega, by go_num, hS⟩
              case measure => simp [intOf]; omega
        · have ii : ¬ (i : Int) < (kn : Int) := by omega
          go_wp2
          go_loopw [6] (fun i_ wr => ∃ i : Nat, i ≤ mn ∧ i_ = .int .i64 i ∧ SpW T w0 wr) (fun i_ _ => mn - (intOf i_).toNat)
          case atStart => exact ⟨0, Nat.zero_le _, rfl, hS⟩
          case round =>
            clear hS
            obtain ⟨i, hi, rfl, hS⟩ := hrel
            have d0 := hS.cell kb c0 (.inl ⟨by decide, by decide⟩)
            have d1 := hS.cell kb c1 (.inl ⟨by decide, by decide⟩)
            have d2 := hS.cell kb c2 (.inl ⟨by decide, by decide⟩)
            have d3 := hS.cell kb c3 (.inl ⟨by decide, by decide⟩)
            have d4 := hS.cell kb c4 (.inl ⟨by decide, by decide⟩)
            have lb := cell_lt d0
            by_cases hil : i < mn
            · have ii : (i : Int) < (mn : Int) := by omega
              have own := ((ms i (by omega)).t.v).ex x0
              obtain ⟨gN, cN, eN, hgN, hbN, hzN⟩ := (ml.ex x0).blk (by omega)
              cases eN
              have hh : w0.cell? ⟨gN, i * 3 + 0, none⟩ = some (.slice (nth mh0 x.mh i).va (nth mh0 x.mh i).vn (nth mh0 x.mh i).vc) := by have h9 := lay_part (d := mh0) (ml.1) fMh_c (lay_at2 (ml.ex x0).lay (by omega)) hil 0 _ rfl; rw [Nat.zero_add] at h9; exact h9
              have own1 := own.1
              have fw := (f.ms i (by omega)).1
              have hn : ((nth mh0 x.mh i).vn) ≤ 20000 := by omega
              obtain ⟨ra, hra⟩ : ∃ a, (nth mh0 x.mh i).va = a := ⟨_, rfl⟩
              obtain ⟨rn, hrn⟩ : ∃ a, (nth mh0 x.mh i).vn = a := ⟨_, rfl⟩
              obtain ⟨rc, hrc⟩ : ∃ a, (nth mh0 x.mh i).vc = a := ⟨_, rfl⟩
              rw [hra, hrn, hrc] at own hh
              rw [hrn] at hn own1
              clear hra hrn hrc fw
              have hc := hS.cell hbN hh (.inl ⟨by decide, by decide⟩)
              rw [Nat.add_zero] at hc
              go_wp2
              go_loopw [7] (fun k_ wr => ∃ k : Nat, k ≤ rn ∧ k_ = .int .i64 k ∧ SpW T w0 wr) (fun k_ _ => rn - (intOf k_).toNat)
              case atStart => exact ⟨0, Nat.zero_le _, rfl, hS⟩
              case round =>
                clear hS hc lb d0 d1 d2 d3 d4
                obtain ⟨k, hk, rfl, hS⟩ := hrel
                have d0 := hS.cell kb c0 (.inl ⟨by decide, by decide⟩)
                have d1 := hS.cell kb c1 (.inl ⟨by decide, by decide⟩)
                have d2 := hS.cell kb c2 (.inl ⟨by decide, by decide⟩)
                have d3 := hS.cell kb c3 (.inl ⟨by decide, by decide⟩)
                have d4 := hS.cell kb c4 (.inl ⟨by decide, by decide⟩)
                have lb := cell_lt d0
                have hc := hS.cell hbN hh (.inl ⟨by decide, by decide⟩)
                rw [Nat.add_zero] at hc
                by_cases hkl : k < rn
                · have ik : (k : Int) < (rn : Int) := by omega
                  obtain ⟨gC, cC, eC, hgC, hbC, hzC⟩ := own.blk (by omega)
                  cases eC
                  obtain ⟨⟨cR, kR⟩, ⟨u, hu⟩, hz⟩ := hS.any (i := k * 3) hbC (by omega)
                  go_wp2
                  go_roundw
                  case rel => exact ⟨k + 1, by omega, by go_num, hS.step kR hgC (.inl (by decide))⟩
                  case measure => simp [intOf]; omega
                · have ik : ¬ (k : Int) < (rn : Int) := by omega
                  go_wp2
                  go_roundw
                  case rel => exact ⟨i + 1, by omega, by go_num, hS⟩
                  case measure => simp [intOf]; omega
            · have ii : ¬ (i : Int) < (mn : Int) := by omega
              go_wp2
              go_loopw [8] (fun i_ wr => ∃ i : Nat, i ≤ tn ∧ i_ = .int .i64 i ∧ SpW T w0 wr) (fun i_ _ => tn - (intOf i_).toNat)
              case atStart => exact ⟨0, Nat.zero_le _, rfl, hS⟩
              case round =>
                clear hS
                obtain ⟨i, hi, rfl, hS⟩ := hrel
                have d0 := hS.cell kb c0 (.inl ⟨by decide, by decide⟩)
                have d1 := hS.cell kb c1 (.inl ⟨by decide, by decide⟩)
                have d2 := hS.cell kb c2 (.inl ⟨by decide, by decide⟩)
                have d3 := hS.cell kb c3 (.inl ⟨by decide, by decide⟩)
                have d4 := hS.cell kb c4 (.inl ⟨by decide, by decide⟩)
                have lb := cell_lt d0
                by_cases hil : i < tn
                · have ii : (i : Int) < (tn : Int) := by omega
                  have own := ((ts i (by omega)).tx).ex x0
                  obtain ⟨gN, cN, eN, hgN, hbN, hzN⟩ := (tl.ex x0).blk (by omega)
                  cases eN
                  have hh : w0.cell? ⟨gN, i * 3 + 2, none⟩ = some (.slice (nth th0 x.th i).ao (nth th0 x.th i).n (nth th0 x.th i).cap) := by have h9 := lay_part (d := th0) (tl.1) fTh_c (lay_at2 (tl.ex x0).lay (by omega)) hil 2 _ rfl; rw [Nat.zero_add] at h9; exact h9
                  have own1 := own.1
                  have fw := f.ts i (by omega); unfold FewTp at fw
                  have hn : ((nth th0 x.th i).n) ≤ 20000 := by omega
                  obtain ⟨ra, hra⟩ : ∃ a, (nth th0 x.th i).ao = a := ⟨_, rfl⟩
                  obtain ⟨rn, hrn⟩ : ∃ a, (nth th0 x.th i).n = a := ⟨_, rfl⟩
                  obtain ⟨rc, hrc⟩ : ∃ a, (nth th0 x.th i).cap = a := ⟨_, rfl⟩
                  rw [hra, hrn, hrc] at own hh
                  rw [hrn] at hn own1
                  clear hra hrn hrc fw
                  have hc := hS.cell hbN hh (.inl ⟨by decide, by decide⟩)
                  go_wp2
                  go_loopw [9] (fun k_ wr => ∃ k : Nat, k ≤ rn ∧ k_ = .int .i64 k ∧ SpW T w0 wr) (fun k_ _ => rn - (intOf k_).toNat)
                  case atStart => exact ⟨0, Nat.zero_le _, rfl, hS⟩
                  case round =>
                    clear hS hc lb d0 d1 d2 d3 d4
                    obtain ⟨k, hk, rfl, hS⟩ := hrel
                    have d0 := hS.cell kb c0 (.inl ⟨by decide, by decide⟩)
                    have d1 := hS.cell kb c1 (.inl ⟨by decide, by decide⟩)
                    have d2 := hS.cell kb c2 (.inl ⟨by decide, by decide⟩)
                    have d3 := hS.cell kb c3 (.inl ⟨by decide, by decide⟩)
                    have d4 := hS.cell kb c4 (.inl ⟨by decide, by decide⟩)
                    have lb := cell_lt d0
                    have hc := hS.cell hbN hh (.inl ⟨by decide, by decide⟩)
                    by_cases hkl : k < rn
                    · have ik : (k : Int) < (rn : Int) := by omega
                      obtain ⟨gC, cC, eC, hgC, hbC, hzC⟩ := own.blk (by omega)
                      cases eC
                      obtain ⟨⟨cR, kR⟩, ⟨u, hu⟩, hz⟩ := hS.any (i := k * 4) hbC (by omega)
                      obtain ⟨_, ⟨u1, hu1⟩, hz1⟩ := hS.any (i := k * 4 + 1) hbC (by omega)
                      obtain ⟨_, ⟨u2, hu2⟩, hz2⟩ := hS.any (i := k * 4 + 2) hbC (by omega)
                      obtain ⟨_, ⟨u3, hu3⟩, hz3⟩ := hS.any (i := k * 4 + 3) hbC (by omega)
                      go_wp2
                      go_roundw
                      case rel => exact ⟨k + 1, by omega, by go_num, (((hS.step kR hgC (.inl (by decide))).step (blk_set_eq kR) hgC (.inl (by decide))).step (blk_set_eq (blk_set_eq kR)) hgC (.inl (by decide))).step (blk_set_eq (blk_set_eq (blk_set_eq kR))) hgC (.inl (by decide))⟩
                      case measure => simp [intOf]; omega
                    · have ik : ¬ (k : Int) < (rn : Int) := by omega
                      go_wp2
                      go_roundw
                      case rel => exact ⟨i + 1, by omega, by go_num, hS⟩
                      case measure => simp [intOf]; omega
                · have ii : ¬ (i : Int) < (tn : Int) := by omega
                  go_wp2
                  first | exact bodyPost_end (v := .tuple #[]) (by simp [results, Tryz.results21, go_sem]) rfl ⟨rfl, hS.ex⟩ | exact bodyPost_ret (v := .tuple #[]) (by simp [results, Tryz.results21, go_sem]) rfl ⟨rfl, hS.ex⟩

end

section


open Go.RowKit Go.ChangeShapes Go.WideShapes Go.ChangeAt

set_option linter.unusedSimpArgs false

set_option linter.unusedVariables false

attribute [local go_sem] plus_size plus_drew dn_set dn_alloc dn_plus plus_dn cell_plus frozen_plus set_plus cell_alloc frozen_alloc set_alloc

theorem wpList_row_guarded {P : Program} {ops : Array Oper} {rest : List Oper} {o : Oper} {a : Act} {w : World} {Q : Exit → Act → World → Prop} (ty : TypeId) (x : Operand) (ho : o.op = .load ty x)
    (g : Nat) (hx : a.eval x = .pointer (some ⟨g, 0, none⟩)) (t : TypeId) (cs : Array Value) (fr : Nat × Nat) (d : TypeDesc) (hg : w.heap[g]? = some (.cells cs t fr))
    (hu : P.underlying ty = some d) (hd : (match d with | .struct _ | .array _ _ => true | _ => false) = true) (hi : (P.info? ty).map (·.size) = some cs.size) (hw : Region.wanted o (yielded ops a.tmps) = true)
    (h : wpList P ops Q rest (a.put o.dst (.agg cs)) w) : wpList P ops Q (o :: rest) a w :=
  wpList_step fun K hK => by rw [if_pos hw]; exact wp_load_row ty x ho g hx t cs fr d hg hu hd hi (hK _ _ h)

/-- a call on one scene, on two, whenever; what it answers -/
structure OneV (F : FuncId) (w1 : World) (c : List Value) (v : Value) : Prop where
  it : ∀ w', (∃ y, w' = plus w1 y) → Calls Tryz.prog F #[.agg c.toArray] w' fun e w'' => e = .returned v ∧ ∃ y, w'' = plus w' y

structure TwoV (F : FuncId) (w1 : World) (c c' : List Value) (v : Value) : Prop where
  it : ∀ w', (∃ y, w' = plus w1 y) → Calls Tryz.prog F #[.agg c.toArray, .agg c'.toArray] w' fun e w'' => e = .returned v ∧ ∃ y, w'' = plus w' y

theorem samePr_rfl (p : Pr) : samePr p p = true := by
  rw [samePr, decide_eq_true rfl, show sameI p.ix p.ix = true from same_refl eqI_refl _]
  rfl

theorem sameMs_rfl (m : Ms) : sameMs m m = true := by
  rw [sameMs, show sameV m.vs m.vs = true from same_refl eqV_refl _, show same2 m.uv m.uv = true from same_refl eq2_refl _, show samePs m.ps m.ps = true from same_refl samePr_rfl _]
  rfl

theorem few_great {w : World} {h : SH} {x : SX} {s : Sc} (hG : GrIn w h.ga h.gn h.ka h.kn x.gr s.g) (hR : RestAt w h x s) (hg : greatSc h x = false) : ScAt w h x s := by
  simp only [greatSc, Bool.or_eq_false_iff, decide_eq_false_iff_not, List.any_eq_false, List.mem_range] at hg
  obtain ⟨g1, g2, g3, g4, g5, g6, g7⟩ := hg
  have hGA := hG.few g1
  have nl := hR.nl.len
  have nl2 := hR.ns.len
  have ml := hR.ml.len
  have ml2 := hR.ms.len
  have tl := hR.tl.len
  have tl2 := hR.ts.len
  have gt := great_noT g5
  refine ⟨hGA, hR, ⟨?_, ?_, ?_, by omega, by omega, by omega, ?_, ?_, ?_⟩⟩
  · rw [hGA.sl.len]; exact hGA.n1
  · rw [hGA.kl]; exact hGA.n2
  · intro k hk
    have hk2 : k < x.gr.length := by rw [hGA.len]; exact hk
    rw [(hGA.row k hk2).len]
    exact hGA.n3 k hk2
  · intro k hk
    have h1 := (hR.ns.one k (by omega)).lay.len
    have h2 := g6 _ (nth_mem (d := nh0) (k := k) (by omega))
    simp only [decide_eq_true_eq] at h2
    unfold FewNd
    omega
  · intro k hk
    have hM := hR.ms.one k (by omega)
    have h2 := g7 k (by omega)
    have h3 := great_noM (by simpa [meshG] using h2)
    obtain ⟨q1, q2, q3, q4⟩ := h3
    have v := hM.vl.len
    have u := hM.ul.len
    have p := hM.pl.len
    have q := hM.pp.len
    refine ⟨by omega, by omega, by omega, fun j hj => ?_⟩
    have h4 := (hM.pp.one j (by omega)).lay.len
    have h5 := q4 j (by omega)
    omega
  · intro k hk
    have h1 := (hR.ts.one k (by omega)).tx.lay.len
    have h2 := gt.2 k (by omega)
    unfold FewTp
    omega

theorem sameSc_refl (s : Sc) : sameSc s s = true := by
  have h1 : sameG s.g s.g = true := sameG_refl _
  have h2 : sameTps s.ts s.ts = true := same_refl (eq := sameTp) (fun a => sameT_refl a.w a.h a.l) _
  have h3 : sameNds s.ns s.ns = true := same_refl sameNd_refl _
  have h4 : sameMss s.ms s.ms = true := same_refl (fun a => sameMs_rfl a) _
  simp [sameSc, h1, h2, h3, h4]

theorem rsame10_is {h : SH} {x : SX} {s : Sc} {h' : SH} {x' : SX} {s' : Sc} {w : World} (hA : ScAt w h x s) (hA' : ScAt w h' x' s') {v : Bool} (hv : sameSc s s' = v) :
    Calls Tryz.prog 19 #[.agg (scCells h).toArray, .agg (scCells h').toArray] w fun e w' => e = .returned (.bool v) ∧ ∃ y, w' = plus w y :=
  hv ▸ rsame10_calls h x s h' x' s' w hA.g hA.r hA.small hA'.g hA'.r hA'.small

theorem lsame10_is {h : SH} {x : SX} {s : Sc} {h' : SH} {x' : SX} {s' : Sc} {w : World} (hA : ScAt w h x s) (hA' : ScAt w h' x' s') {v : Bool} (hv : sameSc s s' = v) :
    Calls Tryz.prog 20 #[.agg (scCells h).toArray, .agg (scCells h').toArray] w fun e w' => e = .returned (.bool v) ∧ ∃ y, w' = plus w y := lsame10_calls h x s h' x' s' w hA hA' hv

theorem rcheck10_is {h : SH} {x : SX} {s : Sc} {w : World} (hA : ScAt w h x s) {v : Int} (hv : scErr s = v) :
    Calls Tryz.prog 16 #[.agg (scCells h).toArray] w fun e w' => e = .returned (.int .i64 v) ∧ ∃ y, w' = plus w y := hv ▸ rcheck10_calls h x s w hA.g hA.r hA.small

theorem lcheck10_is {h : SH} {x : SX} {s : Sc} {w : World} (hA : ScAt w h x s) {v : Int} (hv : scErr s = v) :
    Calls Tryz.prog 12 #[.agg (scCells h).toArray] w fun e w' => e = .returned (.int .i64 v) ∧ ∃ y, w' = plus w y := hv ▸ lcheck10_calls h x s w hA

theorem lcheckNd_v {h : SH} {hn : NH} {n : Nd} {w : World} (hN : NodeAt w hn n) (s1 : hn.n ≤ 10000) {v : Int} (hv : (if mayNd h.mn h.tn n then (0 : Int) else 8) = v) :
    Calls Tryz.prog 17 #[.agg (scCells h).toArray, .agg (fN hn).toArray] w fun e w' => e = .returned (.int .i64 v) ∧ ∃ y, w' = plus w y := by
  subst hv
  obtain ⟨ga, gn, gc, ka, kn, kc, na, nn, nc, ma, mn, mc, ta, tn, tc, r0, r1⟩ := h
  exact lcheckNd_calls ga ka na ma ta gn gc kn kc nn nc mn mc tn tc r0 r1 hn n w hN s1

theorem rcheckNd_v {h : SH} {hn : NH} {n : Nd} {w : World} (hN : NodeAt w hn n) {v : Int} (hv : (if mayNd h.mn h.tn n then (0 : Int) else 8) = v) :
    Calls Tryz.prog 18 #[.agg (scCells h).toArray, .agg (fN hn).toArray] w fun e w' => e = .returned (.int .i64 v) ∧ ∃ y, w' = plus w y := by
  subst hv
  obtain ⟨ga, gn, gc, ka, kn, kc, na, nn, nc, ma, mn, mc, ta, tn, tc, r0, r1⟩ := h
  exact checkNd_at ga ka na ma ta gn gc kn kc nn nc mn mc tn tc r0 r1 hN rfl

theorem great10_is {h : SH} {x : SX} {s : Sc} {w : World} (hG : GrIn w h.ga h.gn h.ka h.kn x.gr s.g) (hR : RestAt w h x s) {v : Bool} (hv : greatSc h x = v) :
    Calls Tryz.prog 13 #[.agg (scCells h).toArray] w fun e w' => e = .returned (.bool v) ∧ ∃ y, w' = plus w y := hv ▸ rgreat10_calls h x s w hG hR

theorem rtwin10_is {h : SH} {x : SX} {s : Sc} {w : World} (hA : ScAt w h x s) : Calls Tryz.prog 14 #[.agg (scCells h).toArray] w fun e w' => ∃ h' x', e = .returned (.agg (scCells h').toArray) ∧ (∃ y, w' = plus w y) ∧ ScOwn w w' h' x' s := rtwin10_calls h x s w hA

theorem ltwin10_is {h : SH} {x : SX} {s : Sc} {w : World} (hA : ScAt w h x s) : Calls Tryz.prog 15 #[.agg (scCells h).toArray] w fun e w' => ∃ h' x', e = .returned (.agg (scCells h').toArray) ∧ (∃ y, w' = plus w y) ∧ ScOwn w w' h' x' s := twin10_calls h x s w hA

theorem GrIn.ex10 {w w' : World} {ao : Option Addr} {n : Nat} {ko : Option Addr} {kn : Nat} {hs : List RH} {g : Gr} (h : GrIn w ao n ko kn hs g) (hw : ∃ x, w' = plus w x) : GrIn w' ao n ko kn hs g := ⟨h.sl.ex hw, h.kh.ex hw, h.len, fun k hk => (h.row k hk).ex hw, h.n1, h.n2, h.n3, h.n4, h.n5⟩

end

section


/-- May a number be written? -/
def canB (n : Int) : Bool := decide (-1099511627776 ≤ n) && decide (n ≤ 1099511627776)

/-- Its rank. -/
def rk (n : Int) : Nat := if 0 ≤ n then (2 * n).toNat else (-1 - 2 * n).toNat

/-- The number of a rank. -/
def un (r : Nat) : Int := if r % 2 = 1 then -1 - ((r / 2 : Nat) : Int) else ((r / 2 : Nat) : Int)

/-- A rank's bytes. -/
def enc (r : Nat) : List Int := if r < 128 then [(r : Int)] else ((r % 128 + 128 : Nat) : Int) :: enc (r / 128)
termination_by r
decreasing_by omega

def bytesOf (n : Int) : List Int := enc (rk n)

def numL (n : Int) : List Int × Int := if canB n = true then (bytesOf n, 0) else ([], 2)

/-- What is read, of k bytes at most, where i were read, and made x. -/
def rd : Nat → Nat → Nat → List Int → Int × Int × Int
  | 0, _, _, _ => (0, 0, 8)
  | _ + 1, _, _, [] => (0, 0, 8)
  | k + 1, i, x, b :: t =>
    if b < 128 then
      if (0 < i ∧ b = 0) ∨ 2199023255552 < x + b.toNat % 128 * 128 ^ i then (0, 0, 8) else (un (x + b.toNat % 128 * 128 ^ i), (i : Int) + 1, 0)
    else rd k (i + 1) (x + b.toNat % 128 * 128 ^ i) t

def readL (l : List Int) : Int × Int × Int := rd 6 0 0 l

def Byt (l : List Int) : Prop := ∀ x ∈ l, 0 ≤ x ∧ x < 256

/-- Lists. -/
def listL (l : List Int) : List Int × Int := if 65536 < l.length then ([], 4) else if l.all canB = true then (bytesOf l.length ++ l.flatMap bytesOf, 0) else ([], 2)

def getL : Nat → List Int → Option (List Int × Nat)
  | 0, _ => some ([], 0)
  | c + 1, l => if (readL l).2.2 = 0 then (getL c (l.drop (readL l).2.1.toNat)).map fun p => ((readL l).1 :: p.1, (readL l).2.1.toNat + p.2) else none

def getsL (acc : List Int) (w c : Nat) (l : List Int) : List Int × Int × Int := match getL c (l.drop w) with
  | some p => (acc ++ p.1, ((w + p.2 : Nat) : Int), 0)
  | none => ([], 0, 8)

def badL (l : List Int) (most : Int) : Bool := decide ((readL l).2.2 ≠ 0) || (decide ((readL l).1 < 0) || decide (most < (readL l).1))

def readsL (l : List Int) (most : Int) : List Int × Int × Int :=
  if most < 0 ∨ 65536 < most then ([], 0, 2) else if badL l most = true then ([], 0, 8) else getsL [] (readL l).2.1.toNat (readL l).1.toNat l

theorem Byt.drop {l : List Int} (h : Byt l) (k : Nat) : Byt (l.drop k) := fun x hx => h x (List.mem_of_mem_drop hx)

def pfx (l : List Int) (k : Nat) : List Int := bytesOf l.length ++ (l.take k).flatMap bytesOf

end

section


open Go.RowKit

def fU (n : Int) : List Value := [.int .u8 n]

section

variable {w : World} {g off n k : Nat}

end

theorem Byt.nth {l : List Int} {k : Nat} (h : Byt l) (hk : k < l.length) : 0 ≤ Go.Proofs.YtcekcihijdipoaaGreat.nth 0 l k ∧ Go.Proofs.YtcekcihijdipoaaGreat.nth 0 l k < 256 := h _ (nth_mem hk)

/-- The string of bytes. -/
def bstr (l : List Int) : ByteArray := l.foldl (fun r n => r.push (UInt8.ofNat n.toNat)) ByteArray.empty

section

variable {H : Type} {enc : TypeId × Value → H} {P : Program} {W : World} {base : Nat} {spare : Nat → Bool} {held : Bool} {ao : Option Addr} {n : Nat} {e : TypeId}

end

section

variable {α : Type} {f : α → List Value} {P : Program} {w T : World} {ao ao2 : Option Addr} {n m cap c c2 : Nat} {l l2 : List α} {e t : TypeId} {b : Nat} {o : Oper} {a : Act} {K : Act → World → Prop} {Q : Exit → Act → World → Prop}

end

section

variable {P : Program} {w : World} {ao : Option Addr} {n cap : Nat} {l : List Int}

end

section

variable {H : Type} {enc : TypeId × Value → H} {P : Program} {W : World} {base : Nat} {spare : Nat → Bool} {held : Bool}

end

section

variable {α : Type} {f : α → List Value} {P : Program} {c : Nat} {e t : TypeId} {b : Nat}

end

end

section


open Go.RowKit Go.Deep Go.ChangeShapes Go.WideShapes Go.ChangeAt

set_option linter.unusedSimpArgs false

set_option linter.unusedVariables false

attribute [local go_sem] plus_size plus_drew dn_set dn_alloc dn_plus plus_dn cell_plus frozen_plus set_plus cell_alloc frozen_alloc set_alloc

section

variable {H : Type} {enc : TypeId × Value → H} {P : Program} {W : World} {base : Nat} {spare : Nat → Bool} {held : Bool}

theorem open_sln {c fuel : Nat} {t e : TypeId} {v : Value} {x : DataW H × List MemPlace} (ht : P.underlying t = some (.slice e)) (hc : P.cellsOf e = c) (hc0 : 0 < c)
    (h : DataW.trod enc P W base spare held fuel t [v] = some x) :
    ∃ (ao : Option Addr) (n cap : Nat), v = .slice ao n cap ∧ n ≤ 9223372036854775807 ∧ n ≤ cap ∧ (ao = none → n = 0 ∧ cap = 0) ∧ RowsAt W ao n c (fun cs => ∃ m y, DataW.trod enc P W base spare held m e cs = some y) := by
  obtain ⟨ao, n, cap, rfl, h1, h2, h3⟩ := open_sl ht hc hc0 h
  refine ⟨ao, n, cap, rfl, h1, ?_, h2, h3⟩
  rcases Go.Deep.open_slice ht h with ⟨h0, _⟩ | ⟨a, len, cap', m, n', D, Pl, h0, hb, hl, hm, hmm, _, hall⟩
  · simp only [List.cons.injEq, and_true, Value.slice.injEq] at h0
    omega
  · simp only [List.cons.injEq, and_true, Value.slice.injEq] at h0
    omega

end

section

variable {H : Type} {enc : TypeId × Value → H} {W : World} {base : Nat} {spare : Nat → Bool} {held : Bool}

theorem kind_node {j k : Nat} (h : [1, 0, 0, 0, 0, 0, 0, 0, 0, 0, 0, 0, 0, 3, 0, 0, 0, 3, 0, 1, 1, 1, 1, 1, 1, 1, 1, 1, 0, 1, 0, 2, 0][j]? = some k) : kindAt Tryz.prog 5 56 j = k := by
  have h1 : (List.range 33).map (kindAt Tryz.prog 5 56) = [1, 0, 0, 0, 0, 0, 0, 0, 0, 0, 0, 0, 0, 3, 0, 0, 0, 3, 0, 1, 1, 1, 1, 1, 1, 1, 1, 1, 0, 1, 0, 2, 0] := by kernel_rfl
  rw [← h1] at h
  have hj : j < 33 := by have := (List.getElem?_eq_some_iff.1 h).1; simpa using this
  simpa [hj] using h

set_option maxHeartbeats 4000000 in
set_option maxRecDepth 100000 in
theorem node_cells {fuel : Nat} {x : DataW H × List MemPlace} {cs : List Value} (hl : cs.length = 33) (h : DataW.trod enc Tryz.prog W base spare held fuel 56 cs = some x) : ∃ hh n, cs = fN hh ∧ NodeAt W hh n := by
  have hc := mix_cell 5 56 fuel cs x h
  obtain ⟨xs, m, _, _, _, hxl, hall⟩ := DataW.trod_struct Tryz.underlying56 h
  have k2 : Tryz.prog.cellsOf 46 = 1 := by kernel_rfl
  have k4 : Tryz.prog.cellsOf 47 = 1 := by kernel_rfl
  match cs, hl, hc, hall with
  | c0 :: c1 :: c2 :: c3 :: c4 :: c5 :: c6 :: c7 :: c8 :: c9 :: c10 :: c11 :: c12 :: c13 :: c14 :: c15 :: c16 :: c17 :: c18 :: c19 :: c20 :: c21 :: c22 :: c23 :: c24 :: c25 :: c26 :: c27 :: c28 :: c29 :: c30 :: c31 :: c32 :: [], _, hc, hall =>
    have q0 := hc 0 c0 rfl
    rw [kind_node (j := 0) (k := 1) rfl] at q0
    obtain ⟨n0, rfl, b0⟩ := q0
    have q1 := hc 1 c1 rfl
    rw [kind_node (j := 1) (k := 0) rfl] at q1
    obtain ⟨n1, rfl⟩ := q1
    have q2 := hc 2 c2 rfl
    rw [kind_node (j := 2) (k := 0) rfl] at q2
    obtain ⟨n2, rfl⟩ := q2
    have q3 := hc 3 c3 rfl
    rw [kind_node (j := 3) (k := 0) rfl] at q3
    obtain ⟨n3, rfl⟩ := q3
    have q4 := hc 4 c4 rfl
    rw [kind_node (j := 4) (k := 0) rfl] at q4
    obtain ⟨n4, rfl⟩ := q4
    have q5 := hc 5 c5 rfl
    rw [kind_node (j := 5) (k := 0) rfl] at q5
    obtain ⟨n5, rfl⟩ := q5
    have q6 := hc 6 c6 rfl
    rw [kind_node (j := 6) (k := 0) rfl] at q6
    obtain ⟨n6, rfl⟩ := q6
    have q7 := hc 7 c7 rfl
    rw [kind_node (j := 7) (k := 0) rfl] at q7
    obtain ⟨n7, rfl⟩ := q7
    have q8 := hc 8 c8 rfl
    rw [kind_node (j := 8) (k := 0) rfl] at q8
    obtain ⟨n8, rfl⟩ := q8
    have q9 := hc 9 c9 rfl
    rw [kind_node (j := 9) (k := 0) rfl] at q9
    obtain ⟨n9, rfl⟩ := q9
    have q10 := hc 10 c10 rfl
    rw [kind_node (j := 10) (k := 0) rfl] at q10
    obtain ⟨n10, rfl⟩ := q10
    have q11 := hc 11 c11 rfl
    rw [kind_node (j := 11) (k := 0) rfl] at q11
    obtain ⟨n11, rfl⟩ := q11
    have q12 := hc 12 c12 rfl
    rw [kind_node (j := 12) (k := 0) rfl] at q12
    obtain ⟨n12, rfl⟩ := q12
    have q14 := hc 14 c14 rfl
    rw [kind_node (j := 14) (k := 0) rfl] at q14
    obtain ⟨n14, rfl⟩ := q14
    have q15 := hc 15 c15 rfl
    rw [kind_node (j := 15) (k := 0) rfl] at q15
    obtain ⟨n15, rfl⟩ := q15
    have q16 := hc 16 c16 rfl
    rw [kind_node (j := 16) (k := 0) rfl] at q16
    obtain ⟨n16, rfl⟩ := q16
    have q18 := hc 18 c18 rfl
    rw [kind_node (j := 18) (k := 0) rfl] at q18
    obtain ⟨n18, rfl⟩ := q18
    have q19 := hc 19 c19 rfl
    rw [kind_node (j := 19) (k := 1) rfl] at q19
    obtain ⟨n19, rfl, b19⟩ := q19
    have q20 := hc 20 c20 rfl
    rw [kind_node (j := 20) (k := 1) rfl] at q20
    obtain ⟨n20, rfl, b20⟩ := q20
    have q21 := hc 21 c21 rfl
    rw [kind_node (j := 21) (k := 1) rfl] at q21
    obtain ⟨n21, rfl, b21⟩ := q21
    have q22 := hc 22 c22 rfl
    rw [kind_node (j := 22) (k := 1) rfl] at q22
    obtain ⟨n22, rfl, b22⟩ := q22
    have q23 := hc 23 c23 rfl
    rw [kind_node (j := 23) (k := 1) rfl] at q23
    obtain ⟨n23, rfl, b23⟩ := q23
    have q24 := hc 24 c24 rfl
    rw [kind_node (j := 24) (k := 1) rfl] at q24
    obtain ⟨n24, rfl, b24⟩ := q24
    have q25 := hc 25 c25 rfl
    rw [kind_node (j := 25) (k := 1) rfl] at q25
    obtain ⟨n25, rfl, b25⟩ := q25
    have q26 := hc 26 c26 rfl
    rw [kind_node (j := 26) (k := 1) rfl] at q26
    obtain ⟨n26, rfl, b26⟩ := q26
    have q27 := hc 27 c27 rfl
    rw [kind_node (j := 27) (k := 1) rfl] at q27
    obtain ⟨n27, rfl, b27⟩ := q27
    have q28 := hc 28 c28 rfl
    rw [kind_node (j := 28) (k := 0) rfl] at q28
    obtain ⟨n28, rfl⟩ := q28
    have q29 := hc 29 c29 rfl
    rw [kind_node (j := 29) (k := 1) rfl] at q29
    obtain ⟨n29, rfl, b29⟩ := q29
    have q30 := hc 30 c30 rfl
    rw [kind_node (j := 30) (k := 0) rfl] at q30
    obtain ⟨n30, rfl⟩ := q30
    have q31 := hc 31 c31 rfl
    rw [kind_node (j := 31) (k := 2) rfl] at q31
    obtain ⟨n31, rfl⟩ := q31
    have q32 := hc 32 c32 rfl
    rw [kind_node (j := 32) (k := 0) rfl] at q32
    obtain ⟨n32, rfl⟩ := q32
    have h2 := hall 2 _ rfl
    have h4 := hall 4 _ rfl
    rw [List.getElem?_eq_getElem (by simp at hxl; omega)] at h2 h4
    have h2' : DataW.trod enc Tryz.prog W base spare held m 46 [c13] = some (xs[2]'(by simp at hxl; omega)) := by simpa [k2] using h2
    have h4' : DataW.trod enc Tryz.prog W base spare held m 47 [c17] = some (xs[4]'(by simp at hxl; omega)) := by simpa [k4] using h4
    obtain ⟨n13, e13, _, w13⟩ := DataW.trod_int Tryz.underlying46 h2'
    obtain rfl : c13 = .int .u16 n13 := by simpa using e13
    obtain ⟨ao, n, cap, rfl, hn, hcap, hz, ho⟩ := open_sln (c := 1) Tryz.underlying47 (by kernel_rfl) (by decide) h4'
    obtain ⟨l, hl⟩ := lay_ints (by kernel_rfl) ho
    have b13 := bounds_u16 w13
    exact ⟨⟨⟨n0, ⟨⟨⟨n1, n2, n3⟩, ⟨n4, n5, n6⟩, ⟨n7, n8, n9⟩⟩, ⟨n10, n11, n12⟩⟩, n13, ⟨n14, n15, n16⟩, n18, ⟨n19, n20, n21, n22, n23, ⟨n24, n25, n26, n27, n28, n29, n30, n31, n32⟩⟩⟩, ao, n, cap⟩, ⟨⟨n0, ⟨⟨⟨n1, n2, n3⟩, ⟨n4, n5, n6⟩, ⟨n7, n8, n9⟩⟩, ⟨n10, n11, n12⟩⟩, n13, ⟨n14, n15, n16⟩, n18, ⟨n19, n20, n21, n22, n23, ⟨n24, n25, n26, n27, n28, n29, n30, n31, n32⟩⟩⟩, l⟩, rfl, rfl, ⟨b0, b13, ⟨b19, b20, b21, b22, b23, ⟨b24, b25, b26, b27, b29⟩⟩⟩, hn, hcap, hz, hl⟩

set_option maxRecDepth 100000 in
theorem lay_nodes {ao : Option Addr} {n : Nat} (h : RowsAt W ao n 33 (fun cs => ∃ m y, DataW.trod enc Tryz.prog W base spare held m 56 cs = some y)) : ∃ hs ns, Lay fN W ao n hs ∧ NodesAt W hs ns := by
  obtain ⟨l, hl, hR⟩ := lay_rows (f := fN) (R := fun hh => ∃ p, NodeAt W hh p) nh0 (by decide) fN_c h (by
    rintro cs hl ⟨m, y, hy⟩
    obtain ⟨hh, p, e1, hp⟩ := node_cells hl hy
    exact ⟨hh, e1, p, hp⟩)
  have hR' : ∀ k, ∃ p, k < n → NodeAt W (nth nh0 l k) p := by
    intro k
    by_cases hk : k < n
    · obtain ⟨p, hp⟩ := hR k hk
      exact ⟨p, fun _ => hp⟩
    · exact ⟨nd0, fun h => absurd h hk⟩
  refine ⟨l, (List.range n).map fun k => Classical.choose (hR' k), hl, ⟨by simp [hl.len], fun k hk => ?_⟩⟩
  rw [hl.len] at hk
  rw [nth_range hk]
  exact Classical.choose_spec (hR' k) hk

set_option maxRecDepth 100000 in
theorem open_node {r : Go.Reach} {b0 : Nat} {v : Value} {d : DataW H} {p : List MemPlace} (hv : Value.okWide Tryz.prog W r b0 56 v) (h : DataW.Trod enc Tryz.prog W base spare held 56 v d p) : ∃ hh n, v = vN hh ∧ NodeAt W hh n := by
  obtain ⟨cs, fuel, x, rfl, hl, hx⟩ := open_agg (by kernel_rfl) hv h
  have k : Tryz.prog.cellsOf 56 = 33 := by kernel_rfl
  obtain ⟨hh, n, rfl, hn⟩ := node_cells (hl.trans k) hx
  exact ⟨hh, n, rfl, hn⟩

end

end

section


open Go.RowKit Go.ChangeShapes Go.WideShapes Go.ChangeAt Go.Deep

section

variable {H : Type} {enc : TypeId × Value → H} {P : Program} {W : World} {base : Nat} {spare : Nat → Bool} {held : Bool} {f0 f1 : Field} {t e tp ev eu : TypeId}

theorem prim_cells {fuel : Nat} {x : DataW H × List MemPlace} {c0 c1 : Value} (hs : P.underlying t = some (.struct #[f0, f1])) (hone : oneCellFields P #[f0, f1] = true) (hk : P.underlying f0.type = some (.int .u8)) (hi : P.underlying f1.type = some (.slice e))
    (hc : P.cellsOf e = 1) (hf : flatB P 4 e = true) (h : DataW.trod enc P W base spare held fuel t [c0, c1] = some x) : ∃ hh p, [c0, c1] = fP hh ∧ PrimAt W hh p := by
  obtain ⟨y0, y1, n, hx, _, h0, h1⟩ := trod_struct2 hs h
  obtain ⟨o0, k0⟩ := hone_of hone 0 f0 rfl
  obtain ⟨o1, k1⟩ := hone_of hone 1 f1 rfl
  have h0' : DataW.trod enc P W base spare held n f0.type [c0] = some y0 := by simpa [o0, k0] using h0
  have h1' : DataW.trod enc P W base spare held n f1.type [c1] = some y1 := by simpa [o1, k1] using h1
  obtain ⟨k, ek, _, wk⟩ := DataW.trod_int hk h0'
  obtain rfl : c0 = .int .u8 k := by simpa using ek
  obtain ⟨ao, m, cap, rfl, hn, hz, ho⟩ := open_sl hi hc (by decide) h1'
  obtain ⟨l, hl⟩ := lay_ints hf ho
  exact ⟨⟨k, ao, m, cap⟩, ⟨k, l⟩, rfl, rfl, (bounds_u8 wk).1, (bounds_u8 wk).2, hn, hz, hl⟩

theorem lay_prims {ao : Option Addr} {n : Nat} (hs : P.underlying t = some (.struct #[f0, f1])) (hone : oneCellFields P #[f0, f1] = true) (hk : P.underlying f0.type = some (.int .u8)) (hi : P.underlying f1.type = some (.slice e))
    (hc : P.cellsOf e = 1) (hf : flatB P 4 e = true) (h : RowsAt W ao n 2 (fun cs => ∃ m y, DataW.trod enc P W base spare held m t cs = some y)) : ∃ hs ps, Lay fP W ao n hs ∧ PrimsAt W hs ps := by
  obtain ⟨l, hl, hR⟩ := lay_rows (f := fP) (R := fun hh => ∃ p, PrimAt W hh p) dPH (by decide) fP_c h (by
    rintro cs hl ⟨m, y, hy⟩
    match cs, hl, hy with
    | [a, b], _, hy =>
      obtain ⟨hh, p, e1, hp⟩ := prim_cells hs hone hk hi hc hf hy
      exact ⟨hh, e1, p, hp⟩)
  have hR' : ∀ k, ∃ p, k < n → PrimAt W (nth dPH l k) p := by
    intro k
    by_cases hk : k < n
    · obtain ⟨p, hp⟩ := hR k hk
      exact ⟨p, fun _ => hp⟩
    · exact ⟨dPr, fun h => absurd h hk⟩
  refine ⟨l, (List.range n).map fun k => Classical.choose (hR' k), hl, ⟨by simp [hl.len], fun k hk => ?_⟩⟩
  rw [hl.len] at hk
  rw [nth_range hk]
  exact Classical.choose_spec (hR' k) hk

end

end

section


open Go.RowKit Go.Deep Go.ChangeShapes Go.WideShapes Go.ChangeAt

set_option linter.unusedSimpArgs false

set_option linter.unusedVariables false

attribute [local go_sem] plus_size plus_drew dn_set dn_alloc dn_plus plus_dn cell_plus frozen_plus set_plus cell_alloc frozen_alloc set_alloc

section

variable {H : Type} {enc : TypeId × Value → H} {W : World} {base : Nat} {spare : Nat → Bool} {held : Bool}

theorem mesh_cells {fuel : Nat} {x : DataW H × List MemPlace} {c0 c1 c2 : Value} (h : DataW.trod enc Tryz.prog W base spare held fuel 61 [c0, c1, c2] = some x) : ∃ hh ps m, [c0, c1, c2] = fMh hh ∧ MeshAt W hh ps m := by
  obtain ⟨y0, y1, y2, n, hx, _, h0, h1, h2⟩ := trod_struct3 Tryz.underlying61 h
  have k0 : Tryz.prog.cellsOf 57 = 1 := by kernel_rfl
  have k1 : Tryz.prog.cellsOf 58 = 1 := by kernel_rfl
  have k2 : Tryz.prog.cellsOf 59 = 1 := by kernel_rfl
  have t0 : DataW.trod enc Tryz.prog W base spare held n 57 [c0] = some y0 := by simpa [k0] using h0
  have t1 : DataW.trod enc Tryz.prog W base spare held n 58 [c1] = some y1 := by simpa [k1] using h1
  have t2 : DataW.trod enc Tryz.prog W base spare held n 59 [c2] = some y2 := by simpa [k2] using h2
  obtain ⟨a0, n0, e0, rfl, hn0, z0, o0⟩ := open_sl Tryz.underlying57 (c := 3) (by kernel_rfl) (by decide) t0
  obtain ⟨a1, n1, e1, rfl, hn1, z1, o1⟩ := open_sl Tryz.underlying58 (c := 2) (by kernel_rfl) (by decide) t1
  obtain ⟨a2, n2, e2, rfl, hn2, z2, o2⟩ := open_sl Tryz.underlying59 (c := 2) (by kernel_rfl) (by decide) t2
  obtain ⟨lv, hlv⟩ := lay_vecs (by kernel_rfl) o0
  obtain ⟨lu, hlu⟩ := lay_twos (by kernel_rfl) o1
  obtain ⟨hs', ps, hlp, hpp⟩ := lay_prims Tryz.underlying131 (by kernel_rfl) Tryz.underlying5 Tryz.underlying47 (by kernel_rfl) (by kernel_rfl) o2
  exact ⟨⟨a0, n0, e0, a1, n1, e1, a2, n2, e2⟩, hs', ⟨lv, lu, ps⟩, rfl, hn0, hn1, hn2, z0, z1, z2, hlv, hlu, hlp, hpp⟩

theorem lay_meshes {ao : Option Addr} {n : Nat} (h : RowsAt W ao n 3 (fun cs => ∃ m y, DataW.trod enc Tryz.prog W base spare held m 61 cs = some y)) : ∃ hs ps ms, Lay fMh W ao n hs ∧ MeshesAt W hs ps ms := by
  obtain ⟨l, hl, hR⟩ := lay_rows (f := fMh) (R := fun hh => ∃ q : List PH × Ms, MeshAt W hh q.1 q.2) mh0 (by decide) fMh_c h (by
    rintro cs hl ⟨m, y, hy⟩
    match cs, hl, hy with
    | [a, b, c], _, hy =>
      obtain ⟨hh, ps, m, e1, hp⟩ := mesh_cells hy
      exact ⟨hh, e1, (ps, m), hp⟩)
  have hR' : ∀ k, ∃ q : List PH × Ms, k < n → MeshAt W (nth mh0 l k) q.1 q.2 := by
    intro k
    by_cases hk : k < n
    · obtain ⟨p, hp⟩ := hR k hk
      exact ⟨p, fun _ => hp⟩
    · exact ⟨([], ms0), fun h => absurd h hk⟩
  refine ⟨l, (List.range n).map fun k => (Classical.choose (hR' k)).1, (List.range n).map fun k => (Classical.choose (hR' k)).2, hl, ⟨by simp [hl.len], fun k hk => ?_⟩⟩
  rw [hl.len] at hk
  rw [nth_range hk, nth_range hk]
  exact Classical.choose_spec (hR' k) hk

theorem lay_texs' {ao : Option Addr} {n : Nat} (h : RowsAt W ao n 3 (fun cs => ∃ m y, DataW.trod enc Tryz.prog W base spare held m 64 cs = some y)) : ∃ hs ts, Lay fTh W ao n hs ∧ TexsAt W hs ts := by
  obtain ⟨hs, ls, hl, hk⟩ := lay_texs Tryz.underlying64 (by kernel_rfl) Tryz.underlying3 Tryz.underlying3 Tryz.underlying62 (by kernel_rfl) (by kernel_rfl) h
  refine ⟨hs, (List.range n).map fun k => ⟨(nth th0 hs k).w, (nth th0 hs k).h, nth [] ls k⟩, hl, ⟨by simp [hl.len], fun k hk' => ?_⟩⟩
  have hkn : k < n := by rw [← hl.len]; exact hk'
  rw [nth_range hkn]
  exact ⟨rfl, rfl, hk.one k hk'⟩

theorem graph_cells {fuel : Nat} {x : DataW H × List MemPlace} {c0 c1 : Value} (hS : Sm Tryz.prog 27 x.1) (h : DataW.trod enc Tryz.prog W base spare held fuel 27 [c0, c1] = some x) :
    ∃ (ao : Option Addr) (n cap : Nat) (ko : Option Addr) (kn kcap : Nat) (hs : List RH) (g : Gr), c0 = .slice ao n cap ∧ c1 = .slice ko kn kcap ∧ GrIn W ao n ko kn hs g := by
  obtain ⟨y0, y1, n, hx1, _, h0, h1⟩ := trod_struct2 Tryz.underlying27 h
  have k0 : Tryz.prog.cellsOf 24 = 1 := by kernel_rfl
  have k1 : Tryz.prog.cellsOf 25 = 1 := by kernel_rfl
  have k2 : Tryz.prog.cellsOf 22 = 1 := by kernel_rfl
  have h0' : DataW.trod enc Tryz.prog W base spare held n 24 [c0] = some y0 := by simpa [k0] using h0
  have h1' : DataW.trod enc Tryz.prog W base spare held n 25 [c1] = some y1 := by simpa [k1] using h1
  rw [hx1] at hS
  have hS1 : Sm Tryz.prog 25 y1.1 := sm_field Tryz.underlying27 hS (j := 1) rfl rfl
  obtain ⟨y2, n', _, _, h2⟩ := trod_struct1 Tryz.underlying24 h0'
  have h2' : DataW.trod enc Tryz.prog W base spare held n' 22 [c0] = some y2 := by simpa [k2] using h2
  obtain ⟨ao, m, cap, rfl, hn, _, hor⟩ := open_sl Tryz.underlying22 (c := 2) (by kernel_rfl) (by decide) h2'
  obtain ⟨l, hl⟩ := lay_slots Tryz.underlying86 (by kernel_rfl) Tryz.underlying3 Tryz.underlying4 hor
  obtain ⟨ko, kn, kcap, rfl, hkn, _, _, _, hrows⟩ := open_slS Tryz.underlying25 (c := 1) (by kernel_rfl) (by decide) h1' hS1
  obtain ⟨hs', hlr, hR'⟩ := lay_rows (f := fR) (R := fun r => ∃ l : List (Int × Int), Lay f2 W r.ao r.n l ∧ r.n ≤ 8796093022208 ∧ r.n ≤ r.cap ∧ (r.ao = none → r.n = 0 ∧ r.cap = 0)) dRH (by decide) fR_c hrows (by
    rintro cs hl ⟨m, y, hy, hSy⟩
    match cs, hl, hy with
    | [a], _, hy => exact row_cells Tryz.underlying88 (by kernel_rfl) (by kernel_rfl) (by kernel_rfl) hy hSy)
  have hR'' : ∀ k, ∃ l : List (Int × Int), k < kn → Lay f2 W (nth dRH hs' k).ao (nth dRH hs' k).n l ∧ (nth dRH hs' k).n ≤ 8796093022208 ∧ (nth dRH hs' k).n ≤ (nth dRH hs' k).cap ∧ ((nth dRH hs' k).ao = none → (nth dRH hs' k).n = 0 ∧ (nth dRH hs' k).cap = 0) := by
    intro k
    by_cases hk : k < kn
    · obtain ⟨l, hl⟩ := hR' k hk
      exact ⟨l, fun _ => hl⟩
    · exact ⟨[], fun h => absurd h hk⟩
  have hlk := hlr.len
  refine ⟨ao, m, cap, ko, kn, kcap, hs', ⟨l, (List.range kn).map fun k => Classical.choose (hR'' k)⟩, rfl, rfl, ⟨hl, hlr, by simp [hlk], fun k hk => ?_, hn, hkn, fun k hk => ?_, fun k hk => ?_, fun k hk => ?_⟩⟩
  · rw [hlk] at hk
    show Lay f2 W _ _ (nth [] ((List.range kn).map fun k => Classical.choose (hR'' k)) k)
    rw [nth_range hk]
    exact (Classical.choose_spec (hR'' k) hk).1
  · exact (Classical.choose_spec (hR'' k) (by omega)).2.1
  · exact (Classical.choose_spec (hR'' k) (by omega)).2.2.1
  · exact (Classical.choose_spec (hR'' k) (by omega)).2.2.2

set_option maxRecDepth 100000 in
theorem scene_cells {fuel : Nat} {x : DataW H × List MemPlace} {cs : List Value} (hl : cs.length = 7) (hS : Sm Tryz.prog 34 x.1) (h : DataW.trod enc Tryz.prog W base spare held fuel 34 cs = some x) :
    ∃ hh sx s, Value.agg cs.toArray = vS hh ∧ GrIn W hh.ga hh.gn hh.ka hh.kn sx.gr s.g ∧ RestAt W hh sx s := by
  obtain ⟨xs, m, _, hx, _, hxl, hall⟩ := DataW.trod_struct Tryz.underlying34 h
  have k0 : Tryz.prog.cellsOf 27 = 2 := by kernel_rfl
  have k1 : Tryz.prog.cellsOf 28 = 1 := by kernel_rfl
  have k2 : Tryz.prog.cellsOf 29 = 1 := by kernel_rfl
  have k3 : Tryz.prog.cellsOf 30 = 1 := by kernel_rfl
  have k4 : Tryz.prog.cellsOf 32 = 2 := by kernel_rfl
  match xs, hxl, hall, hx with
  | [y0, y1, y2, y3, y4], _, hall, hx =>
  match cs, hl, hall with
  | [c0, c1, c2, c3, c4, c5, c6], _, hall =>
    have g0 : DataW.trod enc Tryz.prog W base spare held m 27 [c0, c1] = some y0 := by simpa [k0] using hall 0 _ rfl
    have g1 : DataW.trod enc Tryz.prog W base spare held m 28 [c2] = some y1 := by simpa [k1] using hall 1 _ rfl
    have g2 : DataW.trod enc Tryz.prog W base spare held m 29 [c3] = some y2 := by simpa [k2] using hall 2 _ rfl
    have g3 : DataW.trod enc Tryz.prog W base spare held m 30 [c4] = some y3 := by simpa [k3] using hall 3 _ rfl
    have g4 : DataW.trod enc Tryz.prog W base spare held m 32 [c5, c6] = some y4 := by simpa [k4] using hall 4 _ rfl
    rw [hx] at hS
    have hS0 : Sm Tryz.prog 27 y0.1 := sm_field Tryz.underlying34 hS (j := 0) rfl rfl
    obtain ⟨ga, gn, gc, ka, kn, kc, gr, g, rfl, rfl, hG⟩ := graph_cells hS0 g0
    obtain ⟨na, nn, nc, rfl, hn1, _, o1⟩ := open_sl Tryz.underlying28 (c := 33) (by kernel_rfl) (by decide) g1
    obtain ⟨ma, mn, mc, rfl, hn2, _, o2⟩ := open_sl Tryz.underlying29 (c := 3) (by kernel_rfl) (by decide) g2
    obtain ⟨ta, tn, tc, rfl, hn3, _, o3⟩ := open_sl Tryz.underlying30 (c := 3) (by kernel_rfl) (by decide) g3
    obtain ⟨nhs, ns, nl, hns⟩ := lay_nodes o1
    obtain ⟨mhs, ps, ms, ml, hms⟩ := lay_meshes o2
    obtain ⟨ths, ts, tl, hts⟩ := lay_texs' o3
    have hf := flat_ints 4 32 m _ _ (by kernel_rfl) g4
    obtain ⟨r0, rfl, _⟩ := hf c5 (by simp)
    obtain ⟨r1, rfl, _⟩ := hf c6 (by simp)
    exact ⟨⟨ga, gn, gc, ka, kn, kc, na, nn, nc, ma, mn, mc, ta, tn, tc, r0, r1⟩, ⟨gr, nhs, mhs, ps, ths⟩, ⟨g, ns, ms, ts, (r0, r1)⟩, rfl, hG, nl, hns, ml, hms, tl, hts, hn1, hn2, hn3, rfl⟩

set_option maxRecDepth 100000 in
theorem open_scene {r : Go.Reach} {b0 : Nat} {v : Value} {d : DataW H} {p : List MemPlace} (hS : Sm Tryz.prog 34 d) (hv : Value.okWide Tryz.prog W r b0 34 v) (h : DataW.Trod enc Tryz.prog W base spare held 34 v d p) :
    ∃ hh sx s, v = vS hh ∧ GrIn W hh.ga hh.gn hh.ka hh.kn sx.gr s.g ∧ RestAt W hh sx s := by
  obtain ⟨cs, rfl, hsz⟩ := okWide_struct Tryz.underlying34 hv
  have k : Tryz.prog.cellsOf 34 = 7 := by kernel_rfl
  obtain ⟨fuel, hx⟩ := h
  obtain ⟨hh, sx, s, e, h1, h2⟩ := scene_cells (cs := cs.toList) (by simpa using hsz.trans k) hS (by simpa [Value.cells] using hx)
  exact ⟨hh, sx, s, by simpa using e, h1, h2⟩

end

end

section


open Go.RowKit Go.Deep Go.ChangeShapes Go.WideShapes Go.ChangeAt

set_option linter.unusedSimpArgs false

set_option linter.unusedVariables false

attribute [local go_sem] plus_size plus_drew dn_set dn_alloc dn_plus plus_dn cell_plus frozen_plus set_plus cell_alloc frozen_alloc set_alloc

/-- an edit's cells -/
structure EH where
  kind : Int
  h0 : Int
  h1 : Int
  c0 : Int
  c1 : Int
  at' : Int
  nd : NH
  mh : MH
  th : TH

def fE (e : EH) : List Value := .int .u8 e.kind :: .int .i64 e.h0 :: .int .i64 e.h1 :: .int .i64 e.c0 :: .int .i64 e.c1 :: .int .i64 e.at' :: (fN e.nd ++ (fMh e.mh ++ fTh e.th))

def vE (e : EH) : Value := .agg (fE e).toArray

def eh0 : EH := ⟨0, 0, 0, 0, 0, 0, nh0, mh0, th0⟩

/-- an edit lies in w -/
structure EditAt (w : World) (e : EH) (ps : List PH) (n : Nd) (m : Ms) (t : Tp) : Prop where
  kind : 0 ≤ e.kind ∧ e.kind ≤ 255
  nd : NodeAt w e.nd n
  mh : MeshAt w e.mh ps m
  th : TexAt w e.th t

theorem EditAt.ex {w w' : World} {e : EH} {ps : List PH} {n : Nd} {m : Ms} {t : Tp} (a : EditAt w e ps n m t) (hw : ∃ x, w' = plus w x) : EditAt w' e ps n m t := ⟨a.kind, a.nd.ex hw, a.mh.ex hw, a.th.ex hw⟩

section

variable {H : Type} {enc : TypeId × Value → H} {W : World} {base : Nat} {spare : Nat → Bool} {held : Bool}

end

end

end Go.Proofs.YtcekcihijdipoaaGreat
