/- What dioramaref06.loose gives. -/
import Derived.Test.YtmmflpjfgapaaaaNodes2
namespace Go.Proofs.Ytmmflpjfgapaaaa
open Go.RowKit Go.ChangeShapes Go.WideShapes Go.ChangeAt
set_option linter.unusedSimpArgs false
set_option linter.unusedVariables false
attribute [local go_sem] plus_size plus_drew dn_set dn_alloc dn_plus plus_dn cell_plus frozen_plus set_plus cell_alloc frozen_alloc set_alloc

theorem cnt_set : ∀ {o : List Bool} {k : Nat}, k < o.length → nth false o k = false → cnt (o.set k true) = cnt o + 1
  | [], k, h, _ => by simp at h
  | a :: o, 0, _, h => by
    rw [nth_cons_zero] at h
    subst h
    simp [cnt]
  | a :: o, k + 1, h, h2 => by
    rw [nth_cons_succ] at h2
    have := cnt_set (o := o) (k := k) (by simpa using h) h2
    unfold cnt at *
    rw [List.set_cons_succ, List.countP_cons, List.countP_cons, this]
    omega
def allTo (o : List Bool) (cs : List Nat) (k : Nat) : Bool := (cs.take k).all fun c => nth false o c
theorem allTo_succ {o : List Bool} {cs : List Nat} {k : Nat} (hk : k < cs.length) : allTo o cs (k + 1) = (allTo o cs k && nth false o (nth 0 cs k)) := by
  unfold allTo
  rw [take_nth (d := 0) hk, List.all_append]
  simp
theorem allTo_all (o : List Bool) (cs : List Nat) : allTo o cs cs.length = cs.all fun c => nth false o c := by
  unfold allTo
  rw [List.take_length]

set_option maxRecDepth 100000 in
set_option maxHeartbeats 8000000 in
theorem loose_calls (ao : Option Addr) (n cap : Nat) (ko : Option Addr) (kn kcap : Nat) (hs : List RH) (g : Gr) (w : World) (hG : GrAt w ao n ko kn hs g) (hK : Kin6 g) :
    Calls Try.prog 76 #[.agg #[.slice ao n cap, .slice ko kn kcap]] w fun e w' => e = .returned (.bool (looseB g)) ∧ Below w.heap.size w w' := by
  have hlen := hG.kl
  have hkh := hG.kh.len
  have b3 := hG.n2
  have hmk := make_bools kn (by omega)
  have hLB : looseB g = decide (cnt (countedL (kof g.ks) kn) = kn) := by rw [looseB, hlen]
  go_enter Try.func76, Try.ntmps76
  go_upto_region 2 with fail
  have o0 : Own 4 1 fB (w.alloc (.cells #[.slice ao n cap, .slice ko kn kcap] 27)) ((w.alloc (.cells #[.slice ao n cap, .slice ko kn kcap] 27)).alloc (.cells ((List.replicate kn false).flatMap fB).toArray 4)) (some ⟨w.heap.size + 1, 0, none⟩) kn kn (List.replicate kn false) := own_row (by simp) fB_c (by rw [blk_alloc, if_pos (by simp)]) (by simp) (by unfold maxLen; omega)
  have hx0 : ∃ y, (w.alloc (.cells #[.slice ao n cap, .slice ko kn kcap] 27)).alloc (.cells ((List.replicate kn false).flatMap fB).toArray 4) = plus (w.alloc (.cells #[.slice ao n cap, .slice ko kn kcap] 27)) y := (by with_reducible repeat (first | exact ex_refl _ | exact ex_more | apply ex_alloc | apply ex_plus | apply ex_drew | apply ex_drewN))
  generalize (w.alloc (.cells #[.slice ao n cap, .slice ko kn kcap] 27)).alloc (.cells ((List.replicate kn false).flatMap fB).toArray 4) = w1 at *
  have t1 : (w.alloc (.cells #[.slice ao n cap, .slice ko kn kcap] 27)).cell? ⟨w.heap.size, 1, none⟩ = some (.slice ko kn kcap) := by simp [go_sem]
  have hG' : GrAt (w.alloc (.cells #[.slice ao n cap, .slice ko kn kcap] 27)) ao n ko kn hs g := hG.ex (by with_reducible repeat (first | exact ex_refl _ | exact ex_more | apply ex_alloc | apply ex_plus | apply ex_drew | apply ex_drewN))
  have hTx : ∃ y, (w.alloc (.cells #[.slice ao n cap, .slice ko kn kcap] 27)) = plus w y := (by with_reducible repeat (first | exact ex_refl _ | exact ex_more | apply ex_alloc | apply ex_plus | apply ex_drew | apply ex_drewN))
  clear hG
  generalize (w.alloc (.cells #[.slice ao n cap, .slice ko kn kcap] 27)) = T at *
  have e1 := cell_ex hx0 t1
  go_wp2
  go_loopw [4, 5] (fun m i wr => ∃ r : Nat, r ≤ kn ∧ m = .int .i64 (cnt (rndL (kof g.ks) kn (List.replicate kn false) r)) ∧ i = .int .i64 r ∧ (∃ y, wr = plus T y) ∧ Own 4 1 fB T wr (some ⟨w.heap.size + 1, 0, none⟩) kn kn (rndL (kof g.ks) kn (List.replicate kn false) r)) (fun _ i _ => kn - (intOf i).toNat)
  case atStart => exact ⟨0, Nat.zero_le _, by (show _ = Value.int .i64 ((cnt (List.replicate kn false) : Nat) : Int)); rw [show cnt (List.replicate kn false) = 0 by simp [cnt]]; rfl, rfl, hx0, o0⟩
  case round =>
    clear e1 o0 hx0
    obtain ⟨r, hr, rfl, rfl, hx3, o3⟩ := hrel
    have e1 := cell_ex hx3 t1
    by_cases hrl : r < kn
    rotate_left
    · have ir : ¬ (r : Int) < (kn : Int) := by omega
      obtain rfl : r = kn := by omega
      by_cases hc : cnt (countedL (kof g.ks) r) = r
      · have dc : ((cnt (rndL (kof g.ks) r (List.replicate r false) r) : Int) == (r : Int)) = true := by rw [beq_iff_eq]; exact congrArg _ hc
        go_wp2
        go_ret
        exact ⟨by first | rfl | (rw [hLB, decide_eq_true hc]; rfl), below_ex (ex_on hx3 hTx)⟩
      · have dc : ((cnt (rndL (kof g.ks) r (List.replicate r false) r) : Int) == (r : Int)) = false := by
          rw [beq_eq_false_iff_ne]
          intro e
          exact hc (Int.ofNat_inj.1 e)
        go_wp2
        go_ret
        exact ⟨by first | rfl | (rw [hLB, decide_eq_false hc]; rfl), below_ex (ex_on hx3 hTx)⟩
    have ir : (r : Int) < (kn : Int) := by omega
    obtain ⟨kg, kf, rfl, hkg, hkc⟩ := hG'.kh.some (by omega)
    go_wp2
    go_loopw [4, 6] (fun m i_ wr => ∃ i : Nat, i ≤ kn ∧ m = .int .i64 (cnt (midL (kof g.ks) (rndL (kof g.ks) kn (List.replicate kn false) r) i)) ∧ i_ = .int .i64 i ∧ (∃ y, wr = plus T y) ∧ Own 4 1 fB T wr (some ⟨w.heap.size + 1, 0, none⟩) kn kn (midL (kof g.ks) (rndL (kof g.ks) kn (List.replicate kn false) r) i)) (fun _ i _ => kn - (intOf i).toNat)
    case atStart => exact ⟨0, Nat.zero_le _, rfl, rfl, hx3, o3⟩
    case round =>
      clear e1 o3 hx3
      obtain ⟨i, hi, rfl, rfl, hx4, o4⟩ := hrel
      have e1 := cell_ex hx4 t1
      by_cases hil : i < kn
      rotate_left
      · have ii : ¬ (i : Int) < (kn : Int) := by omega
        obtain rfl : i = kn := by omega
        go_wp2
        go_roundw
        case rel => exact ⟨r + 1, by omega, rfl, by go_num, hx4, o4⟩
        case measure => simp [intOf]; omega
      have ii : (i : Int) < (kn : Int) := by omega
      have c1 := cellR hkh hkc hil
      have hrow := hG'.row i (by omega)
      have hrl' := hrow.len
      have hn3 := hG'.n3 i (by omega)
      have e2 := cell_ex hx4 c1
      obtain ⟨q0, q1, q2, q3⟩ := o4.markAt hil
      go_wp2
      go_loopw [7, 8] (fun b i_ wz => ∃ k : Nat, k ≤ (nth dRH hs i).n ∧ b = .bool (allTo (midL (kof g.ks) (rndL (kof g.ks) kn (List.replicate kn false) r) i) (kof g.ks i) k) ∧ i_ = .int .i64 k ∧ wz = wr) (fun _ i_ _ => (nth dRH hs i).n - (intOf i_).toNat)
      case atStart => exact ⟨0, Nat.zero_le _, rfl, rfl, rfl⟩
      case round =>
        obtain ⟨k, hk, rfl, rfl, rfl⟩ := hrel
        by_cases hkl : k < (nth dRH hs i).n
        rotate_left
        · have ik : ¬ (k : Int) < ((nth dRH hs i).n : Int) := by omega
          obtain rfl : k = (nth dRH hs i).n := by omega
          have hall := allTo_all (midL (kof g.ks) (rndL (kof g.ks) kn (List.replicate kn false) r) i) (kof g.ks i)
          rw [kof_len, hrl'] at hall
          have hmid : midL (kof g.ks) (rndL (kof g.ks) kn (List.replicate kn false) r) (i + 1) = stpL (kof g.ks) (midL (kof g.ks) (rndL (kof g.ks) kn (List.replicate kn false) r) i) i := rfl
          cases ha : allTo (midL (kof g.ks) (rndL (kof g.ks) kn (List.replicate kn false) r) i) (kof g.ks i) (nth dRH hs i).n
          · have hst : stpL (kof g.ks) (midL (kof g.ks) (rndL (kof g.ks) kn (List.replicate kn false) r) i) i = (midL (kof g.ks) (rndL (kof g.ks) kn (List.replicate kn false) r) i) := by rw [stpL, ← hall, ha]; rfl
            go_wp2
            go_roundw
            case rel => exact ⟨i + 1, by omega, by rw [hmid, hst], by go_num, hx4, by rw [hmid, hst]; exact o4⟩
            case measure => simp [intOf]; omega
          cases hv : nth false (midL (kof g.ks) (rndL (kof g.ks) kn (List.replicate kn false) r) i) i
          rotate_left
          · have hst : stpL (kof g.ks) (midL (kof g.ks) (rndL (kof g.ks) kn (List.replicate kn false) r) i) i = (midL (kof g.ks) (rndL (kof g.ks) kn (List.replicate kn false) r) i) := by rw [stpL, ← hall, ha, hv]; rfl
            rw [hv] at q0
            go_wp2
            go_roundw
            case rel => exact ⟨i + 1, by omega, by rw [hmid, hst], by go_num, hx4, by rw [hmid, hst]; exact o4⟩
            case measure => simp [intOf]; omega
          · have hst : stpL (kof g.ks) (midL (kof g.ks) (rndL (kof g.ks) kn (List.replicate kn false) r) i) i = (midL (kof g.ks) (rndL (kof g.ks) kn (List.replicate kn false) r) i).set i true := by rw [stpL, ← hall, ha, hv]; rfl
            rw [hv] at q0
            have hcs := cnt_set (o := (midL (kof g.ks) (rndL (kof g.ks) kn (List.replicate kn false) r) i)) (k := i) (by rw [o4.1]; exact hil) hv
            have hcl := cnt_len (midL (kof g.ks) (rndL (kof g.ks) kn (List.replicate kn false) r) i)
            rw [o4.1] at hcl
            have iwc : IntKind.i64.wrap ((cnt (midL (kof g.ks) (rndL (kof g.ks) kn (List.replicate kn false) r) i) : Int) + 1) = (cnt (midL (kof g.ks) (rndL (kof g.ks) kn (List.replicate kn false) r) i) : Int) + 1 := wrap_le (by omega)
            go_wp2
            go_roundw
            case rel => exact ⟨i + 1, by omega, by rw [hmid, hst, hcs]; go_num, by go_num, ex_set_new hx4 q3, by rw [hmid, hst]; exact o4.mark i hil⟩
            case measure => simp [intOf]; omega
        have ik : (k : Int) < ((nth dRH hs i).n : Int) := by omega
        obtain ⟨rg, ro, hra, hrg, hrc⟩ := hrow.some (by omega)
        obtain ⟨x0, x1⟩ := cell2 hrl' hrc hkl
        have f0 := cell_ex hx4 x0
        rw [hra] at e2
        have hmem : nth (0, 0) (nth [] g.ks i) k ∈ nth [] g.ks i := nth_mem (by omega)
        obtain ⟨p0, p1⟩ := hK i (by omega) _ hmem
        rw [hlen] at p1
        have hsucc := allTo_succ (o := (midL (kof g.ks) (rndL (kof g.ks) kn (List.replicate kn false) r) i)) (cs := kof g.ks i) (k := k) (by rw [kof_len, hrl']; exact hkl)
        rw [kof_nth (by omega)] at hsucc
        obtain ⟨c, hcE⟩ : ∃ c : Nat, (nth (0, 0) (nth [] g.ks i) k).1 = (c : Int) := ⟨_, (Int.toNat_of_nonneg p0).symm⟩
        rw [hcE] at f0 p1 hsucc
        rw [Int.toNat_natCast] at p1 hsucc
        have ic : (c : Int) < (kn : Int) := by omega
        obtain ⟨u0, u1, u2, u3⟩ := o4.markAt p1
        cases hv : nth false (midL (kof g.ks) (rndL (kof g.ks) kn (List.replicate kn false) r) i) c
        · rw [hv] at u0
          rw [hv, Bool.and_false] at hsucc
          go_wp2
          go_roundw
          case rel => exact ⟨k + 1, by omega, by rw [hsucc], by go_num, by first | rfl | trivial⟩
          case measure => simp [intOf]; omega
        · rw [hv] at u0
          rw [hv, Bool.and_true] at hsucc
          go_wp2
          go_roundw
          case rel => exact ⟨k + 1, by omega, by rw [hsucc], by go_num, by first | rfl | trivial⟩
          case measure => simp [intOf]; omega

end Go.Proofs.Ytmmflpjfgapaaaa
