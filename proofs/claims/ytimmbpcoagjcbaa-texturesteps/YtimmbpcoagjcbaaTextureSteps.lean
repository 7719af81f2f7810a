/- TextureSteps is proved: of a texture whose texels tell their own column and row, a place farther to the right, or down, is at no texel farther to the left, or up: the call returns true for any sides and any two places. No condition. -/
import Derived.Test.YtimmbpcoagjcbaaTx5
import Derived.Test.YtimmbpcoagjcbaaTx6
import Derived.Test.YtimmbpcoagjcbaaLay2
import Derived.Test.YtimmbpcoagjcbaaLaw
import Derived.Deep.DeepCutAuto
namespace Go.Proofs.Ytimmbpcoagjcbaa
open Go.RowKit Go.ChangeShapes Go.WideShapes Go.ChangeAt
set_option linter.unusedSimpArgs false
set_option linter.unusedVariables false
attribute [local go_sem] plus_size plus_drew dn_set dn_alloc dn_plus plus_dn cell_plus frozen_plus set_plus cell_alloc frozen_alloc set_alloc

attribute [local go_sem] eqC_refl

attribute [local go_sem] colc_23

attribute [local go_sem] cole_23

attribute [local go_sem] coln_23

theorem name_world9 {α : Type} {F : α → World → Prop} {a : α} {w : World} (p : World → Prop) (hp : p w) (h : ∀ w', p w' → F a w') : F a w := h w hp
/-- the first n texels, that tell their own column and row -/
def stepL (W n : Nat) : List Cl := (List.range n).map fun i => ⟨(i % W : Nat), (i / W : Nat), 0, 0⟩
theorem stepL_succ (W n : Nat) : stepL W (n + 1) = stepL W n ++ [⟨(n % W : Nat), (n / W : Nat), 0, 0⟩] := by simp [stepL, List.range_succ]
theorem stepL_len (W n : Nat) : (stepL W n).length = n := by simp [stepL]
theorem stepL_nth {W n k : Nat} (hk : k < n) : nth cl0 (stepL W n) k = ⟨(k % W : Nat), (k / W : Nat), 0, 0⟩ := nth_range hk

/-- the texture under way -/
structure StI (w wr : World) (B W H n : Nat) (ao : Option Addr) (cap : Nat) : Prop where
  ex : ∃ y, wr = plus w y
  own : Own 23 4 fCl w wr ao n cap (stepL W n)
  blk : wr.heap[B]? = some (.cells #[.int .i64 (W : Nat), .int .i64 (H : Nat), .slice ao n cap] 29)

/-- what a place that may be is told -/
theorem step_at {W H n : Nat} {u v : Int} (hW : 1 ≤ W ∧ W ≤ 16) (hH : 1 ≤ H ∧ H ≤ 16) (hn : n = W * H) : (atT W H n (stepL W n) u v = (cl0, 2)) ∨ ((0 ≤ u ∧ u ≤ 255) ∧ (0 ≤ v ∧ v ≤ 255) ∧ ∃ a b : Nat, atT W H n (stepL W n) u v = (⟨(a : Nat), (b : Nat), 0, 0⟩, 0) ∧ u * (W : Int) / 256 = (a : Int) ∧ v * (H : Int) / 256 = (b : Int) ∧ a < 16 ∧ b < 16) := by
  have hm : mayT W H n = true := mayT_iff.2 ⟨by omega, by omega, by rw [hn]; exact Int.natCast_mul W H⟩
  cases hu : plc u
  · exact .inl (at_arg hm (by rw [hu]; rfl))
  cases hv : plc v
  · exact .inl (at_arg hm (by rw [hu, hv]; rfl))
  right
  have hu2 := plc_iff.1 hu
  have hv2 := plc_iff.1 hv
  refine ⟨hu2, hv2, ?_⟩
  obtain ⟨_, _, a0, a1⟩ := col_lt (n := (W : Int)) (by omega) hu2
  obtain ⟨_, _, b0, b1⟩ := col_lt (n := (H : Int)) (by omega) hv2
  obtain ⟨_, s2, s3⟩ := spot_lt (w := (W : Int)) (h := (H : Int)) (by omega) (by omega) hu2 hv2
  obtain ⟨a, ha⟩ : ∃ a : Nat, u * (W : Int) / 256 = (a : Int) := ⟨(u * (W : Int) / 256).toNat, by omega⟩
  obtain ⟨b, hb⟩ : ∃ b : Nat, v * (H : Int) / 256 = (b : Int) := ⟨(v * (H : Int) / 256).toNat, by omega⟩
  have hs : (spot W H u v).toNat = b * W + a := by
    have e : spot W H u v = ((b * W + a : Nat) : Int) := by
      rw [spot, ha, hb]
      simp
    rw [e]
    exact Int.toNat_natCast _
  have hlt : b * W + a < n := by
    have e : ((b * W + a : Nat) : Int) < ((W * H : Nat) : Int) := by
      rw [← hs, Int.natCast_mul]
      omega
    rw [hn]
    exact Int.ofNat_lt.1 e
  have haW : a < W := by omega
  refine ⟨a, b, ?_, ha, hb, by omega, by omega⟩
  rw [at_good hm hu hv, hs, stepL_nth hlt, Nat.add_comm, Nat.add_mul_mod_self_right, Nat.mod_eq_of_lt haW, Nat.add_mul_div_right _ _ (by omega), Nat.div_eq_of_lt haW, Nat.zero_add]
theorem step_le {n u s a b : Int} (hn : 0 ≤ n) (h : u ≤ s) (ha : u * n / 256 = a) (hb : s * n / 256 = b) : a ≤ b := by
  have h1 : u * n ≤ s * n := Int.mul_le_mul_of_nonneg_right h hn
  omega

set_option maxRecDepth 100000 in
set_option maxHeartbeats 4000000 in
theorem textureSteps_walk (w0 h0 u v s z : Int) (w : World) :
    Calls Try.prog 6 #[.int .i64 w0, .int .i64 h0, .int .i64 u, .int .i64 v, .int .i64 s, .int .i64 z] w fun e w' => e = .returned (.bool true) ∧ Below w.heap.size w w' := by
  by_cases q0 : w0 < 1
  · skip
    go_enter Try.func6, Try.ntmps6
    go_wp2_with (go_at_call 9; refine (alive9_calls _).mono ?_; rintro e w' ⟨rfl, nx, rfl⟩)
    go_ret
    exact ⟨rfl, below_ex (by with_reducible repeat (first | exact ex_refl _ | exact ex_more9 | apply ex_alloc | apply ex_plus | apply ex_drew | apply ex_drewN | (apply ex_on; assumption)))⟩
  by_cases q1 : 16 < w0
  · skip
    go_enter Try.func6, Try.ntmps6
    go_wp2_with (go_at_call 9; refine (alive9_calls _).mono ?_; rintro e w' ⟨rfl, nx, rfl⟩)
    go_ret
    exact ⟨rfl, below_ex (by with_reducible repeat (first | exact ex_refl _ | exact ex_more9 | apply ex_alloc | apply ex_plus | apply ex_drew | apply ex_drewN | (apply ex_on; assumption)))⟩
  by_cases q2 : h0 < 1
  · skip
    go_enter Try.func6, Try.ntmps6
    go_wp2_with (go_at_call 9; refine (alive9_calls _).mono ?_; rintro e w' ⟨rfl, nx, rfl⟩)
    go_ret
    exact ⟨rfl, below_ex (by with_reducible repeat (first | exact ex_refl _ | exact ex_more9 | apply ex_alloc | apply ex_plus | apply ex_drew | apply ex_drewN | (apply ex_on; assumption)))⟩
  by_cases q3 : 16 < h0
  · skip
    go_enter Try.func6, Try.ntmps6
    go_wp2_with (go_at_call 9; refine (alive9_calls _).mono ?_; rintro e w' ⟨rfl, nx, rfl⟩)
    go_ret
    exact ⟨rfl, below_ex (by with_reducible repeat (first | exact ex_refl _ | exact ex_more9 | apply ex_alloc | apply ex_plus | apply ex_drew | apply ex_drewN | (apply ex_on; assumption)))⟩
  obtain ⟨W, rfl⟩ : ∃ W : Nat, w0 = (W : Int) := ⟨w0.toNat, by omega⟩
  obtain ⟨H, rfl⟩ : ∃ H : Nat, h0 = (H : Int) := ⟨h0.toNat, by omega⟩
  have hW : 1 ≤ W ∧ W ≤ 16 := by omega
  have hH : 1 ≤ H ∧ H ≤ 16 := by omega
  go_enter Try.func6, Try.ntmps6
  go_upto_region 5 with (go_at_call 9; refine (alive9_calls _).mono ?_; rintro e w' ⟨rfl, nx, rfl⟩)
  have hB : w.heap.size ≤ (plus w nx).heap.size := by rw [plus_size]; omega
  obtain ⟨B, hBe⟩ : ∃ B, (plus w nx).heap.size = B := ⟨_, rfl⟩
  refine name_world9 (fun w' => StI w w' B W H 0 none 0) ⟨(by with_reducible repeat (first | exact ex_refl _ | exact ex_more9 | apply ex_alloc | apply ex_plus | apply ex_drew | apply ex_drewN)), own_nil, by subst hBe; rw [blk_alloc, if_pos rfl]⟩ ?_
  rw [plus_size] at hBe hB
  rw [hBe] at hB
  simp only [hBe]
  rintro wA hA
  go_wp2
  go_loopw [15] (fun i wr => ∃ (k : Nat) (ao : Option Addr) (cap : Nat), k ≤ H ∧ i = .int .i64 k ∧ StI w wr B W H (k * W) ao cap) (fun i _ => H - (intOf i).toNat)
  case atStart => exact ⟨0, none, 0, Nat.zero_le _, rfl, by rw [Nat.zero_mul]; exact hA⟩
  case round =>
    obtain ⟨k, ao, cap, hkH, rfl, hI⟩ := hrel
    by_cases hk : k < H
    · have ik : (k : Int) < (H : Int) := by omega
      go_wp2
      go_loopw [16] (fun i wr => ∃ (j : Nat) (ao : Option Addr) (cap : Nat), j ≤ W ∧ i = .int .i64 j ∧ StI w wr B W H (k * W + j) ao cap) (fun i _ => W - (intOf i).toNat)
      case atStart => exact ⟨0, ao, cap, Nat.zero_le _, rfl, hI⟩
      case round =>
        obtain ⟨j, ao, cap, hjW, rfl, hI⟩ := hrel
        obtain ⟨n, hn⟩ : ∃ n, k * W + j = n := ⟨_, rfl⟩
        have hkW : k * W ≤ 240 := by
          have h1 : k * W ≤ 15 * 16 := Nat.mul_le_mul (by omega) (by omega)
          omega
        by_cases hj : j < W
        · have ij : (j : Int) < (W : Int) := by omega
          have hm1 : n % W = j := by rw [← hn, Nat.add_comm, Nat.add_mul_mod_self_right, Nat.mod_eq_of_lt hj]
          have hd1 : n / W = k := by rw [← hn, Nat.add_comm, Nat.add_mul_div_right _ _ (by omega), Nat.div_eq_of_lt hj, Nat.zero_add]
          have hsu : stepL W (n + 1) = stepL W n ++ [⟨(j : Nat), (k : Nat), 0, 0⟩] := by rw [stepL_succ, hm1, hd1]
          rw [hn] at hI
          obtain ⟨hx, ho, hb⟩ := hI
          have m0 : wr.cell? ⟨B, 0, none⟩ = some (.int .i64 (W : Nat)) := cell_blk (i := 0) hb rfl
          have m1 : wr.cell? ⟨B, 1, none⟩ = some (.int .i64 (H : Nat)) := cell_blk (i := 1) hb rfl
          have m2 : wr.cell? ⟨B, 2, none⟩ = some (.slice ao n cap) := cell_blk (i := 2) hb rfl
          have gB := cell_lt m2
          have em1 : (j : Int) % 256 = (j : Int) := by omega
          have em2 : (k : Int) % 256 = (k : Int) := by omega
          have hn2 : n ≤ 256 := by omega
          clear hm1 hd1 hkW
          replace hn := Hush9.mk hn
          replace hsu := Hush9.mk hsu
          go_wp2_with (at_builtin; refine wpList_append_lay2 (T := w) rfl _ _ rfl kinC fCl_c fCl_1 rfl (by first | exact ex_alloc hx | with_reducible repeat (first | exact ex_refl _ | exact ex_more9 | apply ex_alloc | apply ex_plus | apply ex_drew | apply ex_drewN | (apply ex_on; assumption))) (ho.ex (by with_reducible repeat (first | exact ex_refl _ | exact ex_more9 | apply ex_alloc | apply ex_plus | apply ex_drew | apply ex_drewN))) rfl (l2 := [⟨(j : Nat), (k : Nat), 0, 0⟩]) ⟨rfl, .inr ⟨_, 0, rfl, by simp [go_sem]; try omega, fun jj u hu => by match jj, hu with | 0, hu => (simp [fCl] at hu <;> (subst hu; simp [go_sem, ↓IntWalk.iteOmega])) | 1, hu => (simp [fCl] at hu <;> (subst hu; simp [go_sem, ↓IntWalk.iteOmega])) | 2, hu => (simp [fCl] at hu <;> (subst hu; simp [go_sem, ↓IntWalk.iteOmega])) | 3, hu => (simp [fCl] at hu <;> (subst hu; simp [go_sem, ↓IntWalk.iteOmega])) | jj + 4, hu => simp [fCl] at hu⟩⟩ (by omega) (by decide) ?_; intro ao2 cap2 w2 own2 hx2 hgr; have b2 := grown_blk hgr (ho.ex (by with_reducible repeat (first | exact ex_refl _ | exact ex_more9 | apply ex_alloc | apply ex_plus | apply ex_drew | apply ex_drewN))) (blk_ex (by with_reducible repeat (first | exact ex_refl _ | exact ex_more9 | apply ex_alloc | apply ex_plus | apply ex_drew | apply ex_drewN)) hb) (by decide); have z2 := frozen_blk (i := 2) b2; have n2 := cell_blk (i := 2) b2 rfl)
          go_roundw
          case rel =>
            have b3 := blk_set_eq (i := 2) (u := .slice ao2 (n + 1) cap2) b2
            exact ⟨j + 1, ao2, cap2, by omega, by go_num, by rw [← Nat.add_assoc, hn.it]; exact ⟨ex_set_new hx2 hB, by rw [hsu.it]; exact own2.set_other b2 (by decide), b3⟩⟩
          case measure => simp [intOf]; omega
        · have ij : ¬ (j : Int) < (W : Int) := by omega
          obtain rfl : j = W := by omega
          go_wp2
          go_roundw
          case rel => exact ⟨k + 1, ao, cap, by omega, by go_num, by rw [Nat.succ_mul]; exact hI⟩
          case measure => simp [intOf]; omega
    · have ik : ¬ (k : Int) < (H : Int) := by omega
      obtain rfl : H = k := by omega
      obtain ⟨n, hn⟩ : ∃ n, H * W = n := ⟨_, rfl⟩
      rw [hn] at hI
      have hn1 : n = W * H := by rw [← hn, Nat.mul_comm]
      have hn2 : n ≤ 256 := by
        have h1 : H * W ≤ 16 * 16 := Nat.mul_le_mul (by omega) (by omega)
        omega
      obtain ⟨hx, ho, hb⟩ := hI
      have hu' := step_at (u := u) (v := v) hW hH hn1
      have hs' := step_at (u := s) (v := z) hW hH hn1
      clear hn1
      replace hn := Hush9.mk hn
      have m0 : wr.cell? ⟨B, 0, none⟩ = some (.int .i64 (W : Nat)) := cell_blk (i := 0) hb rfl
      have m1 : wr.cell? ⟨B, 1, none⟩ = some (.int .i64 (H : Nat)) := cell_blk (i := 1) hb rfl
      have m2 : wr.cell? ⟨B, 2, none⟩ = some (.slice ao n cap) := cell_blk (i := 2) hb rfl
      have gB := cell_lt m2
      have hlay := ho.lay
      rcases hu' with hu | ⟨hu0, hv0, a, b, hu, ha, hb', ha2, hb2⟩
      · rcases hs' with hs | ⟨_, _, c, d, hs, _⟩
        · skip
          go_wp2_with (go_at_call 7; refine (tat_is (p := (_, _)) (hlay.ex (by with_reducible repeat (first | exact ex_refl _ | exact ex_more9 | apply ex_alloc | apply ex_plus | apply ex_drew | apply ex_drewN))) (by omega) (by first | exact hu | exact hs)).mono ?_; rintro e w' ⟨rfl, nx, rfl⟩)
          go_ret
          exact ⟨rfl, below_ex (by with_reducible repeat (first | exact ex_refl _ | exact ex_more9 | apply ex_alloc | apply ex_plus | apply ex_drew | apply ex_drewN | (apply ex_on; assumption)))⟩
        · skip
          go_wp2_with (go_at_call 7; refine (tat_is (p := (_, _)) (hlay.ex (by with_reducible repeat (first | exact ex_refl _ | exact ex_more9 | apply ex_alloc | apply ex_plus | apply ex_drew | apply ex_drewN))) (by omega) (by first | exact hu | exact hs)).mono ?_; rintro e w' ⟨rfl, nx, rfl⟩)
          go_ret
          exact ⟨rfl, below_ex (by with_reducible repeat (first | exact ex_refl _ | exact ex_more9 | apply ex_alloc | apply ex_plus | apply ex_drew | apply ex_drewN | (apply ex_on; assumption)))⟩
      · rcases hs' with hs | ⟨hs0, hz0, c, d, hs, hc, hd, hc2, hd2⟩
        · skip
          go_wp2_with (go_at_call 7; refine (tat_is (p := (_, _)) (hlay.ex (by with_reducible repeat (first | exact ex_refl _ | exact ex_more9 | apply ex_alloc | apply ex_plus | apply ex_drew | apply ex_drewN))) (by omega) (by first | exact hu | exact hs)).mono ?_; rintro e w' ⟨rfl, nx, rfl⟩)
          go_ret
          exact ⟨rfl, below_ex (by with_reducible repeat (first | exact ex_refl _ | exact ex_more9 | apply ex_alloc | apply ex_plus | apply ex_drew | apply ex_drewN | (apply ex_on; assumption)))⟩
        · obtain ⟨e0, e1, _⟩ := col_lt (n := (W : Int)) (by omega) hu0
          obtain ⟨e2, e3, _⟩ := col_lt (n := (H : Int)) (by omega) hv0
          have hle : u ≤ s → (a : Int) ≤ (c : Int) := fun h => step_le (n := (W : Int)) (by omega) h ha hc
          have hle2 : v ≤ z → (b : Int) ≤ (d : Int) := fun h => step_le (n := (H : Int)) (by omega) h hb' hd
          clear hc hd
          by_cases i1 : s < u
          · clear hle
            by_cases i2 : z < v
            · clear hle2
              go_wp2_with (go_at_call 7; refine (tat_is (p := (_, _)) (hlay.ex (by with_reducible repeat (first | exact ex_refl _ | exact ex_more9 | apply ex_alloc | apply ex_plus | apply ex_drew | apply ex_drewN))) (by omega) (by first | exact hu | exact hs)).mono ?_; rintro e w' ⟨rfl, nx, rfl⟩)
              go_ret
              exact ⟨rfl, below_ex (by with_reducible repeat (first | exact ex_refl _ | exact ex_more9 | apply ex_alloc | apply ex_plus | apply ex_drew | apply ex_drewN | (apply ex_on; assumption)))⟩
            · have i3 := hle2 (by omega)
              clear hle2
              go_wp2_with (go_at_call 7; refine (tat_is (p := (_, _)) (hlay.ex (by with_reducible repeat (first | exact ex_refl _ | exact ex_more9 | apply ex_alloc | apply ex_plus | apply ex_drew | apply ex_drewN))) (by omega) (by first | exact hu | exact hs)).mono ?_; rintro e w' ⟨rfl, nx, rfl⟩)
              go_ret
              exact ⟨rfl, below_ex (by with_reducible repeat (first | exact ex_refl _ | exact ex_more9 | apply ex_alloc | apply ex_plus | apply ex_drew | apply ex_drewN | (apply ex_on; assumption)))⟩
          · have i4 := hle (by omega)
            clear hle
            by_cases i2 : z < v
            · clear hle2
              go_wp2_with (go_at_call 7; refine (tat_is (p := (_, _)) (hlay.ex (by with_reducible repeat (first | exact ex_refl _ | exact ex_more9 | apply ex_alloc | apply ex_plus | apply ex_drew | apply ex_drewN))) (by omega) (by first | exact hu | exact hs)).mono ?_; rintro e w' ⟨rfl, nx, rfl⟩)
              go_ret
              exact ⟨rfl, below_ex (by with_reducible repeat (first | exact ex_refl _ | exact ex_more9 | apply ex_alloc | apply ex_plus | apply ex_drew | apply ex_drewN | (apply ex_on; assumption)))⟩
            · have i3 := hle2 (by omega)
              clear hle2
              go_wp2_with (go_at_call 7; refine (tat_is (p := (_, _)) (hlay.ex (by with_reducible repeat (first | exact ex_refl _ | exact ex_more9 | apply ex_alloc | apply ex_plus | apply ex_drew | apply ex_drewN))) (by omega) (by first | exact hu | exact hs)).mono ?_; rintro e w' ⟨rfl, nx, rfl⟩)
              go_ret
              exact ⟨rfl, below_ex (by with_reducible repeat (first | exact ex_refl _ | exact ex_more9 | apply ex_alloc | apply ex_plus | apply ex_drew | apply ex_drewN | (apply ex_on; assumption)))⟩

set_option maxRecDepth 100000 in
theorem textureSteps_lifted (os : Os) (started : os.Started) (H : Type) (enc : TypeId × Value → H) :
    ReturnsInHanded {} Try.checked os 6 .any (Rows.textureStepsSpec.pre6 enc Try.prog Try.f6 Rows.textureStepsRow.domain false) (Rows.textureStepsSpec.post enc Try.prog Try.f6 false true false false) := by
  refine returnsInHanded_of_change (C := Try.checked) own started (by kernel_rfl) Try.func6
    (ChangeSpec.witness6 (enc := enc) (C := Try.checked) false ⟨#[], #[.int .i64 0, .int .i64 0, .int .i64 0, .int .i64 0, .int .i64 0, .int .i64 0], []⟩ 8 (by kernel_rfl) (by kernel_rfl) (by kernel_rfl) (by kernel_rfl)) ?_
  intro W base args ds gs before hval0 hW hcnd _
  have hval : ∀ (j : Nat) t v, Try.f6.params[j]? = some t → args[j]? = some v → Value.okWide Try.prog W .any base t v := hval0
  have hW' := hW
  obtain ⟨p, q, hA0, hV, rfl, hfz, hnd⟩ := hW
  have hA : DataW.TrodAll enc Try.prog W 0 (fun _ => true) true Try.f6.params.toList args.toList ds p := hA0
  rw [Try.params6] at hA hval
  obtain ⟨v0, vs0, d0, ds0, p0, q0, hargs, rfl, rfl, h0, r0⟩ := trodAll_cons hA
  obtain ⟨v1, vs1, d1, ds1, p1, q1, rfl, rfl, rfl, h1, r1⟩ := trodAll_cons r0
  obtain ⟨v2, vs2, d2, ds2, p2, q2, rfl, rfl, rfl, h2, r2⟩ := trodAll_cons r1
  obtain ⟨v3, vs3, d3, ds3, p3, q3, rfl, rfl, rfl, h3, r3⟩ := trodAll_cons r2
  obtain ⟨v4, vs4, d4, ds4, p4, q4, rfl, rfl, rfl, h4, r4⟩ := trodAll_cons r3
  obtain ⟨v5, vs5, d5, ds5, p5, q5, rfl, rfl, rfl, h5, r5⟩ := trodAll_cons r4
  obtain ⟨rfl, rfl, rfl⟩ := trodAll_nil r5
  obtain rfl : args = #[v0, v1, v2, v3, v4, v5] := by cases args; simp_all
  obtain ⟨a0, rfl, _, _, w0⟩ := open_int Try.underlying3 (hval 0 3 v0 rfl rfl) h0
  have b0 := bounds_i64 w0
  obtain ⟨a1, rfl, _, _, w1⟩ := open_int Try.underlying3 (hval 1 3 v1 rfl rfl) h1
  have b1 := bounds_i64 w1
  obtain ⟨a2, rfl, _, _, w2⟩ := open_int Try.underlying3 (hval 2 3 v2 rfl rfl) h2
  have b2 := bounds_i64 w2
  obtain ⟨a3, rfl, _, _, w3⟩ := open_int Try.underlying3 (hval 3 3 v3 rfl rfl) h3
  have b3 := bounds_i64 w3
  obtain ⟨a4, rfl, _, _, w4⟩ := open_int Try.underlying3 (hval 4 3 v4 rfl rfl) h4
  have b4 := bounds_i64 w4
  obtain ⟨a5, rfl, _, _, w5⟩ := open_int Try.underlying3 (hval 5 3 v5 rfl rfl) h5
  have b5 := bounds_i64 w5
  refine (textureSteps_walk a0 a1 a2 a3 a4 a5  W ).mono fun e W' ⟨he, hb⟩ => ?_
  exact ⟨_, he, law_post laidOut Try.underlying4 rfl (by kernel_rfl) (by kernel_rfl) (fun ds h => match ds, h with | [_, _, _, _, _, _], _ => rfl) hW' hb⟩

theorem textureSteps_holds : Rows.TextureStepsSaid :=
  OpenClaim.holds_of_wide 6 Try.f6 rfl rfl rfl rfl rfl rfl rfl ⟨rfl, rfl, rfl, rfl, rfl⟩ rfl rfl rfl rfl rfl (by kernel_rfl) Try.func6 (by kernel_rfl)
    (of_decide_eq_true (by kernel_rfl)) (by unfold Func.isWrapper; first | (rw [if_pos (by decide +kernel)]; kernel_rfl) | (rw [if_neg (by decide +kernel)]; exact ⟨rfl, rfl⟩))
    (fun os started H enc _ => textureSteps_lifted os started H enc)
#print axioms textureSteps_holds
end Go.Proofs.Ytimmbpcoagjcbaa
