/- What dioramaref06.Below gives. -/
import Derived.Test.YtmmflpjfgapaaaaNodes1
import Derived.Deep.DeepCutAuto
namespace Go.Proofs.Ytmmflpjfgapaaaa
open Go.RowKit Go.ChangeShapes Go.WideShapes Go.ChangeAt
set_option linter.unusedSimpArgs false
set_option linter.unusedVariables false
attribute [local go_sem] plus_size plus_drew dn_set dn_alloc dn_plus plus_dn cell_plus frozen_plus set_plus cell_alloc frozen_alloc set_alloc

theorem kinB : Kin Try.prog 95 4 1 1 := ⟨Try.underlying95, info_parts' (z := .bool false) (by kernel_rfl) rfl, by decide⟩
def fB (b : Bool) : List Value := [.bool b]
theorem fB_c : ∀ x, (fB x).length = 1 := fun _ => rfl
theorem fB_1 : ∀ x, ∀ u ∈ fB x, u.oneCell' = true := by intro x u hu; simp only [fB, List.mem_cons, List.not_mem_nil, or_false] at hu; subst hu; rfl
theorem cellB {w : World} {g off n k : Nat} {l : List Bool} (hl : l.length = n) (h : ∀ j u, (l.flatMap fB)[j]? = some u → w.cell? ⟨g, off + j, none⟩ = some u) (hk : k < n) : w.cell? ⟨g, off + k, none⟩ = some (.bool (nth false l k)) := by
  have h0 := cell_nth (d := false) hl fB_c h k 0 _ hk (by decide) rfl
  rwa [Nat.mul_one, Nat.add_zero] at h0
theorem flat_false : ∀ n, (List.replicate n false).flatMap fB = List.replicate n (Value.bool false)
  | 0 => rfl
  | n + 1 => by rw [List.replicate_succ, List.flatMap_cons, flat_false n, List.replicate_succ]; rfl
theorem make_bools (n : Nat) (hn : n ≤ 100000) (w : World) : (Instr.makeSlice 95 (.int .i64 n) (.int .i64 n)).run Try.prog w = .ok (.slice (some ⟨w.heap.size, 0, none⟩) n n) (w.alloc (.cells ((List.replicate n false).flatMap fB).toArray 4)) := by
  obtain ⟨i, hi, hz, h1, h2⟩ := info_parts (show (Try.prog.info? 4).map (fun i => (i.zero, i.size, i.bytes)) = some (some (.bool false), 1, 1) by kernel_rfl)
  have h := run_make w 95 4 i (.bool false) Try.underlying95 hi hz .i64 .i64 n n (by omega) (Int.le_refl _) (by rw [h2]; omega) (by omega)
  rw [Int.toNat_natCast, h1, Nat.mul_one] at h
  rw [flat_false]
  have e := toList_madeCells_one (.bool false) n
  rw [← e]
  exact h
/-- one mark more -/
theorem Own.mark {w T : World} {b n cap : Nat} {o : List Bool} (h : Own 4 1 fB T w (some ⟨b, 0, none⟩) n cap o) (k : Nat) (hk : k < n) : Own 4 1 fB T (w.setCell ⟨b, k, none⟩ (.bool true)) (some ⟨b, 0, none⟩) n cap (o.set k true) := by
  have := h.set_self (u := .bool true) k 0 true false hk fB_c (by decide) rfl
  rwa [Nat.mul_one, Nat.add_zero] at this
/-- all that a walk asks of a list of marks at a place -/
theorem Own.markAt {w T : World} {b n cap : Nat} {o : List Bool} (h : Own 4 1 fB T w (some ⟨b, 0, none⟩) n cap o) {k : Nat} (hk : k < n) : w.cell? ⟨b, k, none⟩ = some (.bool (nth false o k)) ∧ w.frozen? ⟨b, k, none⟩ = false ∧ b < w.heap.size ∧ T.heap.size ≤ b := by
  obtain ⟨_, cur, eqa, hT, hb, _⟩ := h.blk (by omega)
  cases eqa
  obtain ⟨_, _, eqa, hlt, hc⟩ := h.lay.some (by omega)
  cases eqa
  have c := cellB h.1 hc hk
  rw [Nat.zero_add] at c
  exact ⟨c, frozen_blk hb, hlt, hT⟩
theorem name_world {α : Type} {F : α → World → Prop} {a : α} {w : World} (p : World → Prop) (hp : p w) (h : ∀ w', p w' → F a w') : F a w := h w hp

/-- all children are nodes -/
def Kin6 (g : Gr) : Prop := ∀ i, i < g.ks.length → ∀ x, x ∈ nth [] g.ks i → 0 ≤ x.1 ∧ x.1.toNat < g.ks.length
theorem kin6_kof {g : Gr} (h : Kin6 g) : ∀ i, i < g.ks.length → ∀ c, c ∈ kof g.ks i → c < g.ks.length := by
  intro i hi c hc
  obtain ⟨x, hx, rfl⟩ := kof_mem.1 hc
  exact (h i hi x hx).2
theorem kof_nth {g : Gr} {i k : Nat} (hk : k < (nth [] g.ks i).length) : nth 0 (kof g.ks i) k = (nth (0, 0) (nth [] g.ks i) k).1.toNat := nth_map (d := ((0, 0) : Int × Int)) (e := 0) (f := fun h => h.1.toNat) rfl (nth [] g.ks i) k
theorem kof_len (ks : List (List (Int × Int))) (i : Nat) : (kof ks i).length = (nth [] ks i).length := by simp [kof]

set_option maxRecDepth 100000 in
set_option maxHeartbeats 8000000 in
theorem below_calls (ao : Option Addr) (n cap : Nat) (ko : Option Addr) (kn kcap : Nat) (hs : List RH) (g : Gr) (fr : Nat) (w : World) (hG : GrAt w ao n ko kn hs g) (hK : Kin6 g) (hf : fr < kn) :
    Calls Try.prog 55 #[.agg #[.slice ao n cap, .slice ko kn kcap], .int .i64 fr] w fun e w' => ∃ b cap', e = .returned (.slice (some ⟨b, 0, none⟩) kn cap') ∧ (∃ y, w' = plus w y) ∧ Own 4 1 fB w w' (some ⟨b, 0, none⟩) kn cap' (below (kof g.ks) kn fr) := by
  have hlen := hG.kl
  have hkh := hG.kh.len
  have b3 := hG.n2
  have hmk := make_bools kn (by omega)
  have iF : (fr : Int) < (kn : Int) := by omega
  have hKl := kin6_kof hK
  rw [hlen] at hKl
  obtain ⟨kg, kf, rfl, hkg, hkc⟩ := hG.kh.some (by omega)
  go_enter Try.func55, Try.ntmps55
  go_upto_region 2 with fail
  have o0 : Own 4 1 fB (w.alloc (.cells #[.slice ao n cap, .slice (some ⟨kg, kf, none⟩) kn kcap] 27)) ((w.alloc (.cells #[.slice ao n cap, .slice (some ⟨kg, kf, none⟩) kn kcap] 27)).alloc (.cells ((List.replicate kn false).flatMap fB).toArray 4)) (some ⟨w.heap.size + 1, 0, none⟩) kn kn (List.replicate kn false) := own_row (by simp) fB_c (by rw [blk_alloc, if_pos (by simp)]) (by simp) (by unfold maxLen; omega)
  have hx0 : ∃ y, (w.alloc (.cells #[.slice ao n cap, .slice (some ⟨kg, kf, none⟩) kn kcap] 27)).alloc (.cells ((List.replicate kn false).flatMap fB).toArray 4) = plus (w.alloc (.cells #[.slice ao n cap, .slice (some ⟨kg, kf, none⟩) kn kcap] 27)) y := (by with_reducible repeat (first | exact ex_refl _ | exact ex_more | apply ex_alloc | apply ex_plus | apply ex_drew | apply ex_drewN))
  generalize (w.alloc (.cells #[.slice ao n cap, .slice (some ⟨kg, kf, none⟩) kn kcap] 27)).alloc (.cells ((List.replicate kn false).flatMap fB).toArray 4) = w1 at *
  obtain ⟨m0, m1, m2, m3⟩ := o0.markAt hf
  go_upto_region 3 with fail
  refine name_world (fun w' => (∃ y, w' = plus (w.alloc (.cells #[.slice ao n cap, .slice (some ⟨kg, kf, none⟩) kn kcap] 27)) y) ∧ Own 4 1 fB (w.alloc (.cells #[.slice ao n cap, .slice (some ⟨kg, kf, none⟩) kn kcap] 27)) w' (some ⟨w.heap.size + 1, 0, none⟩) kn kn ((List.replicate kn false).set fr true)) ⟨ex_set_new hx0 m3, o0.mark fr hf⟩ ?_
  rintro w2 ⟨hx2, o2⟩
  clear o0 hx0 m0 m1 m2
  have t0 : (w.alloc (.cells #[.slice ao n cap, .slice (some ⟨kg, kf, none⟩) kn kcap] 27)).cell? ⟨w.heap.size, 0, none⟩ = some (.slice ao n cap) := by simp [go_sem]
  have t1 : (w.alloc (.cells #[.slice ao n cap, .slice (some ⟨kg, kf, none⟩) kn kcap] 27)).cell? ⟨w.heap.size, 1, none⟩ = some (.slice (some ⟨kg, kf, none⟩) kn kcap) := by simp [go_sem]
  have hG' : GrAt (w.alloc (.cells #[.slice ao n cap, .slice (some ⟨kg, kf, none⟩) kn kcap] 27)) ao n (some ⟨kg, kf, none⟩) kn hs g := hG.ex (by with_reducible repeat (first | exact ex_refl _ | exact ex_more | apply ex_alloc | apply ex_plus | apply ex_drew | apply ex_drewN))
  have hTx : ∃ y, (w.alloc (.cells #[.slice ao n cap, .slice (some ⟨kg, kf, none⟩) kn kcap] 27)) = plus w y := (by with_reducible repeat (first | exact ex_refl _ | exact ex_more | apply ex_alloc | apply ex_plus | apply ex_drew | apply ex_drewN))
  have hTs : w.heap.size ≤ (w.alloc (.cells #[.slice ao n cap, .slice (some ⟨kg, kf, none⟩) kn kcap] 27)).heap.size := by simp [go_sem]
  clear hG hkc
  generalize (w.alloc (.cells #[.slice ao n cap, .slice (some ⟨kg, kf, none⟩) kn kcap] 27)) = T at *
  obtain ⟨_, _, eqa, hkg', hkc⟩ := hG'.kh.some (by omega)
  cases eqa
  have e1 := cell_ex hx2 t1
  go_wp2
  go_loopw [6] (fun i wr => ∃ r : Nat, r ≤ kn ∧ i = .int .i64 r ∧ (∃ y, wr = plus T y) ∧ Own 4 1 fB T wr (some ⟨w.heap.size + 1, 0, none⟩) kn kn (rnd (kof g.ks) kn ((List.replicate kn false).set fr true) r)) (fun i _ => kn - (intOf i).toNat)
  case atStart => exact ⟨0, Nat.zero_le _, rfl, hx2, o2⟩
  case round =>
    clear e1 o2 hx2
    obtain ⟨r, hr, rfl, hx3, o3⟩ := hrel
    have e1 := cell_ex hx3 t1
    by_cases hrl : r < kn
    rotate_left
    · have ir : ¬ (r : Int) < (kn : Int) := by omega
      obtain rfl : r = kn := by omega
      go_wp2
      go_ret
      exact ⟨_, _, rfl, ex_on hx3 hTx, o3.base hTs⟩
    have ir : (r : Int) < (kn : Int) := by omega
    go_wp2
    go_loopw [7] (fun i wr => ∃ i' : Nat, i' ≤ kn ∧ i = .int .i64 i' ∧ (∃ y, wr = plus T y) ∧ Own 4 1 fB T wr (some ⟨w.heap.size + 1, 0, none⟩) kn kn (mid (kof g.ks) (rnd (kof g.ks) kn ((List.replicate kn false).set fr true) r) i')) (fun i _ => kn - (intOf i).toNat)
    case atStart => exact ⟨0, Nat.zero_le _, rfl, hx3, o3⟩
    case round =>
      clear e1 o3 hx3
      obtain ⟨i, hi, rfl, hx4, o4⟩ := hrel
      have e1 := cell_ex hx4 t1
      by_cases hil : i < kn
      rotate_left
      · have ii : ¬ (i : Int) < (kn : Int) := by omega
        obtain rfl : i = kn := by omega
        go_wp2
        go_roundw
        case rel => exact ⟨r + 1, by omega, by go_num, hx4, o4⟩
        case measure => simp [intOf]; omega
      have ii : (i : Int) < (kn : Int) := by omega
      have c1 := cellR hkh hkc hil
      have hrow := hG'.row i (by omega)
      have hrl' := hrow.len
      have hn3 := hG'.n3 i (by omega)
      go_wp2
      go_loopw [8] (fun i_ wr => ∃ k : Nat, k ≤ (nth dRH hs i).n ∧ i_ = .int .i64 k ∧ (∃ y, wr = plus T y) ∧ Own 4 1 fB T wr (some ⟨w.heap.size + 1, 0, none⟩) kn kn (inn (kof g.ks) (mid (kof g.ks) (rnd (kof g.ks) kn ((List.replicate kn false).set fr true) r) i) i k)) (fun i_ _ => (nth dRH hs i).n - (intOf i_).toNat)
      case atStart => exact ⟨0, Nat.zero_le _, rfl, hx4, o4⟩
      case round =>
        clear e1 o4 hx4
        obtain ⟨k, hk, rfl, hx5, o5⟩ := hrel
        have e1 := cell_ex hx5 t1
        have e2 := cell_ex hx5 c1
        by_cases hkl : k < (nth dRH hs i).n
        rotate_left
        · have ik : ¬ (k : Int) < ((nth dRH hs i).n : Int) := by omega
          obtain rfl : k = (nth dRH hs i).n := by omega
          go_wp2
          go_roundw
          case rel => exact ⟨i + 1, by omega, by go_num, hx5, by show Own _ _ _ _ _ _ _ _ (inn (kof g.ks) _ i (kof g.ks i).length); rw [kof_len, hrl']; exact o5⟩
          case measure => simp [intOf]; omega
        have ik : (k : Int) < ((nth dRH hs i).n : Int) := by omega
        obtain ⟨q0, q1, q2, q3⟩ := o5.markAt hil
        have hsucc := inn_succ (K := kof g.ks) (mid (kof g.ks) (rnd (kof g.ks) kn ((List.replicate kn false).set fr true) r) i) i k (by rw [kof_len, hrl']; exact hkl)
        obtain ⟨rg, ro, hra, hrg, hrc⟩ := hrow.some (by omega)
        obtain ⟨x0, x1⟩ := cell2 hrl' hrc hkl
        have f0 := cell_ex hx5 x0
        rw [hra] at e2
        have hmem : nth (0, 0) (nth [] g.ks i) k ∈ nth [] g.ks i := nth_mem (by omega)
        obtain ⟨p0, p1⟩ := hK i (by omega) _ hmem
        rw [hlen] at p1
        rw [kof_nth (by omega)] at hsucc
        obtain ⟨c, hcE⟩ : ∃ c : Nat, (nth (0, 0) (nth [] g.ks i) k).1 = (c : Int) := ⟨_, (Int.toNat_of_nonneg p0).symm⟩
        rw [hcE] at f0 p1 hsucc
        rw [Int.toNat_natCast] at p1 hsucc
        have ic : (c : Int) < (kn : Int) := by omega
        cases hv : nth false (inn (kof g.ks) (mid (kof g.ks) (rnd (kof g.ks) kn ((List.replicate kn false).set fr true) r) i) i k) i
        · rw [hv] at q0
          rw [stp, hv, if_neg (by decide)] at hsucc
          go_wp2
          go_roundw
          case rel => exact ⟨k + 1, by omega, by go_num, hx5, by rw [hsucc]; exact o5⟩
          case measure => simp [intOf]; omega
        · rw [hv] at q0
          rw [stp, hv, if_pos rfl] at hsucc
          obtain ⟨u0, u1, u2, u3⟩ := o5.markAt p1
          go_wp2
          go_roundw
          case rel => exact ⟨k + 1, by omega, by go_num, ex_set_new hx5 q3, by rw [hsucc]; exact o5.mark c p1⟩
          case measure => simp [intOf]; omega

end Go.Proofs.Ytmmflpjfgapaaaa
