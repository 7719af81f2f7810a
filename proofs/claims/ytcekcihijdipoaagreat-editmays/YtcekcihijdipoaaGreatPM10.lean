/- A pack of texts: Mesh12, Nodes2, Nodes3, Nodes4. -/
import Derived.Deep.DeepCutAuto
import Derived.Test.YtcekcihijdipoaaGreatPM9
import Derived.Test.YtcekcihijdipoaaGreatPM4
namespace Go.Proofs.YtcekcihijdipoaaGreat

section


open Go.RowKit Go.ChangeShapes Go.WideShapes Go.ChangeAt

set_option linter.unusedSimpArgs false

set_option linter.unusedVariables false

attribute [local go_sem] plus_size plus_drew dn_set dn_alloc dn_plus plus_dn cell_plus frozen_plus set_plus cell_alloc frozen_alloc set_alloc

attribute [local go_sem] eqarr_40 nearr_40 larr_40

attribute [local go_sem] eqarr_137 nearr_137 larr_137

attribute [local go_sem] isnil_47

attribute [local go_sem] isnil_57

attribute [local go_sem] isnil_58

attribute [local go_sem] isnil_59

theorem vOk_yes {v : V3} (h1 : inR (-1024) 1024 v.x = true) (h2 : inR (-1024) 1024 v.y = true) (h3 : inR (-1024) 1024 v.z = true) : vOk v = true := by simp [vOk, h1, h2, h3]

theorem uOk_yes {v : Int × Int} (h1 : inR 0 255 v.1 = true) (h2 : inR 0 255 v.2 = true) : uOk v = true := by simp [uOk, h1, h2]

set_option maxRecDepth 100000 in
set_option maxHeartbeats 4000000 in
theorem may_callsM (va ua pa : Option Addr) (vn vc un uc pn pc : Nat) (hs : List PH) (m : Ms) (w : World) (hm : MeshAt w ⟨va, vn, vc, ua, un, uc, pa, pn, pc⟩ hs m) (hvn : vn ≤ 64) (hpn : pn ≤ 16) :
    Calls Tryz.prog 174 #[.agg #[.slice va vn vc, .slice ua un uc, .slice pa pn pc]] w fun e w' => e = .returned (.bool (msOk m)) ∧ Below w.heap.size w w' := by
  have hvl : Lay fV w va vn m.vs := hm.vl
  have hul : Lay f2 w ua un m.uv := hm.ul
  have hpl : Lay fP w pa pn hs := hm.pl
  have hpp : PrimsAt w hs m.ps := hm.pp
  have lv := hvl.len
  have lu := hul.len
  have lp := hpl.len
  have lq := hpp.len
  have hun := hm.ule
  simp only at hun
  by_cases he : un = vn
  rotate_left
  · rw [show msOk m = false by (have : ¬ m.uv.length = m.vs.length := by omega); simp [msOk, this]]
    have ie : ¬ (un : Int) = (vn : Int) := by omega
    have de : ((un : Int) == (vn : Int)) = false := by rw [beq_eq_false_iff_ne]; omega
    go_enter Tryz.func174, Tryz.ntmps174
    go_wp2
    go_ret
    exact ⟨rfl, by with_reducible repeat (first | exact Below.refl _ _ | apply ba | apply bp | apply bd | apply bn)⟩
  subst he
  go_enter Tryz.func174, Tryz.ntmps174
  go_wp2
  go_loopw [3] (fun i wr => ∃ k : Nat, k ≤ un ∧ i = .int .i64 k ∧ (∀ j, j < k → vOk (nth zeroV m.vs j) = true) ∧ (∀ j, j < k → uOk (nth (0, 0) m.uv j) = true) ∧ ∃ x, wr = plus (w.alloc (.cells #[.slice va un vc, .slice ua un uc, .slice pa pn pc] 61)) x) (fun i _ => un - (intOf i).toNat)
  case atStart => exact ⟨0, Nat.zero_le _, rfl, fun j hj => by omega, fun j hj => by omega, (by with_reducible repeat (first | exact ex_refl _ | exact ex_moreM | apply ex_alloc | apply ex_plus | apply ex_drew | apply ex_drewN))⟩
  case round =>
    obtain ⟨k, hk, rfl, hs1, hs2, x, rfl⟩ := hrel
    by_cases hkl : k < un
    · obtain ⟨g, off, rfl, hg, hcell⟩ := hvl.some (by omega)
      obtain ⟨g2, off2, rfl, hg2, hcell2⟩ := hul.some (by omega)
      obtain ⟨c0, c1, c2⟩ := cellV hvl.len hcell hkl
      obtain ⟨d0, d1⟩ := cell2 hul.len hcell2 hkl
      have ik : (k : Int) < (un : Int) := by omega
      cases h1 : inR (-1024) 1024 (nth zeroV m.vs k).x
      · have hA : m.vs.all vOk = false := all_not (d := zeroV) (k := k) (by omega) (by simp [vOk, h1])
        have hno : msOk m = false := by rw [msOk, hA, Bool.false_and, Bool.false_and, Bool.false_and]
        go_wp2_with (go_at_call 183; refine (plus_post (in_calls _ _ _ _)).mono ?_; rintro e w' ⟨rfl, nx, rfl⟩)
        go_ret
        exact ⟨by rw [hno]; rfl, by with_reducible repeat (first | exact Below.refl _ _ | apply ba | apply bp | apply bd | apply bn)⟩
      cases h2 : inR (-1024) 1024 (nth zeroV m.vs k).y
      · have hA : m.vs.all vOk = false := all_not (d := zeroV) (k := k) (by omega) (by simp [vOk, h2])
        have hno : msOk m = false := by rw [msOk, hA, Bool.false_and, Bool.false_and, Bool.false_and]
        go_wp2_with (go_at_call 183; refine (plus_post (in_calls _ _ _ _)).mono ?_; rintro e w' ⟨rfl, nx, rfl⟩)
        go_ret
        exact ⟨by rw [hno]; rfl, by with_reducible repeat (first | exact Below.refl _ _ | apply ba | apply bp | apply bd | apply bn)⟩
      cases h3 : inR (-1024) 1024 (nth zeroV m.vs k).z
      · have hA : m.vs.all vOk = false := all_not (d := zeroV) (k := k) (by omega) (by simp [vOk, h3])
        have hno : msOk m = false := by rw [msOk, hA, Bool.false_and, Bool.false_and, Bool.false_and]
        go_wp2_with (go_at_call 183; refine (plus_post (in_calls _ _ _ _)).mono ?_; rintro e w' ⟨rfl, nx, rfl⟩)
        go_ret
        exact ⟨by rw [hno]; rfl, by with_reducible repeat (first | exact Below.refl _ _ | apply ba | apply bp | apply bd | apply bn)⟩
      cases h4 : inR (0) 255 (nth (0, 0) m.uv k).1
      · have hA : m.uv.all uOk = false := all_not (d := (0, 0)) (k := k) (by omega) (by simp [uOk, h4])
        have hno : msOk m = false := by rw [msOk, hA, Bool.and_false, Bool.false_and]
        go_wp2_with (go_at_call 183; refine (plus_post (in_calls _ _ _ _)).mono ?_; rintro e w' ⟨rfl, nx, rfl⟩)
        go_ret
        exact ⟨by rw [hno]; rfl, by with_reducible repeat (first | exact Below.refl _ _ | apply ba | apply bp | apply bd | apply bn)⟩
      cases h5 : inR (0) 255 (nth (0, 0) m.uv k).2
      · have hA : m.uv.all uOk = false := all_not (d := (0, 0)) (k := k) (by omega) (by simp [uOk, h5])
        have hno : msOk m = false := by rw [msOk, hA, Bool.and_false, Bool.false_and]
        go_wp2_with (go_at_call 183; refine (plus_post (in_calls _ _ _ _)).mono ?_; rintro e w' ⟨rfl, nx, rfl⟩)
        go_ret
        exact ⟨by rw [hno]; rfl, by with_reducible repeat (first | exact Below.refl _ _ | apply ba | apply bp | apply bd | apply bn)⟩
      go_wp2_with (go_at_call 183; refine (plus_post (in_calls _ _ _ _)).mono ?_; rintro e w' ⟨rfl, nx, rfl⟩)
      go_roundw
      case rel => exact ⟨k + 1, by omega, by go_num, upto_succM hs1 (vOk_yes h1 h2 h3), upto_succM hs2 (uOk_yes h4 h5), (by with_reducible repeat (first | exact ex_refl _ | exact ex_moreM | apply ex_alloc | apply ex_plus | apply ex_drew | apply ex_drewN))⟩
      case measure => simp [intOf]; omega
    · have ik : ¬ (k : Int) < (un : Int) := by omega
      have hv : m.vs.all vOk = true := all_yes (d := zeroV) (fun j hj => hs1 j (by omega))
      have hu : m.uv.all uOk = true := all_yes (d := (0, 0)) (fun j hj => hs2 j (by omega))
      cases ha : allOk un m.ps
      · have hno : msOk m = false := by
          have : psOk m.vs.length m.ps = false := by rw [lv, psOk, show m.ps.all (pOk un) = false from ha, Bool.false_and]
          rw [msOk, this, Bool.and_false]
        go_wp2_with (go_at_call 184; refine (all_calls _ _ _ _ _ _ _ _ _ hs m.ps _ (hpl.ex (by with_reducible repeat (first | exact ex_refl _ | exact ex_moreM | apply ex_alloc | apply ex_plus | apply ex_drew | apply ex_drewN | (apply ex_on; assumption)))) (hpp.ex (by with_reducible repeat (first | exact ex_refl _ | exact ex_moreM | apply ex_alloc | apply ex_plus | apply ex_drew | apply ex_drewN | (apply ex_on; assumption)))) (by omega) (by omega)).mono ?_; rintro e w1 ⟨ao1, m1, cap1, rfl, hw1, hl1⟩; rw [ha])
        go_ret
        exact ⟨by rw [hno]; rfl, below_ex (by with_reducible repeat (first | exact ex_refl _ | exact ex_moreM | apply ex_alloc | apply ex_plus | apply ex_drew | apply ex_drewN | (apply ex_on; assumption)))⟩
      · have hms : msOk m = decide (trisN m.ps m.ps.length ≤ 64) := by rw [msOk, hv, hu, lu, lv, psOk, show m.ps.all (pOk un) = true from ha]; simp
        obtain ⟨M, hM⟩ : ∃ M, trisN m.ps m.ps.length = M := ⟨_, rfl⟩
        have hML : (tris m.ps m.ps.length).length = M := hM
        rw [hM] at hms
        by_cases h64 : M ≤ 64
        · have i64 : (M : Int) ≤ 64 := by omega
          go_wp2_with (go_at_call 184; refine (all_calls _ _ _ _ _ _ _ _ _ hs m.ps _ (hpl.ex (by with_reducible repeat (first | exact ex_refl _ | exact ex_moreM | apply ex_alloc | apply ex_plus | apply ex_drew | apply ex_drewN | (apply ex_on; assumption)))) (hpp.ex (by with_reducible repeat (first | exact ex_refl _ | exact ex_moreM | apply ex_alloc | apply ex_plus | apply ex_drew | apply ex_drewN | (apply ex_on; assumption)))) (by omega) (by omega)).mono ?_; rintro e w1 ⟨ao1, m1, cap1, rfl, hw1, hl1⟩; rw [ha]; rw [allListM, if_pos ha] at hl1; obtain rfl : M = m1 := hML.symm.trans hl1.len)
          go_ret
          exact ⟨by rw [hms, decide_eq_true h64]; rfl, below_ex (by with_reducible repeat (first | exact ex_refl _ | exact ex_moreM | apply ex_alloc | apply ex_plus | apply ex_drew | apply ex_drewN | (apply ex_on; assumption)))⟩
        · have i64 : ¬ (M : Int) ≤ 64 := by omega
          have d64 := decide_eq_false i64
          go_wp2_with (go_at_call 184; refine (all_calls _ _ _ _ _ _ _ _ _ hs m.ps _ (hpl.ex (by with_reducible repeat (first | exact ex_refl _ | exact ex_moreM | apply ex_alloc | apply ex_plus | apply ex_drew | apply ex_drewN | (apply ex_on; assumption)))) (hpp.ex (by with_reducible repeat (first | exact ex_refl _ | exact ex_moreM | apply ex_alloc | apply ex_plus | apply ex_drew | apply ex_drewN | (apply ex_on; assumption)))) (by omega) (by omega)).mono ?_; rintro e w1 ⟨ao1, m1, cap1, rfl, hw1, hl1⟩; rw [ha]; rw [allListM, if_pos ha] at hl1; obtain rfl : M = m1 := hML.symm.trans hl1.len)
          go_ret
          exact ⟨by rw [hms, decide_eq_false h64]; rfl, below_ex (by with_reducible repeat (first | exact ex_refl _ | exact ex_moreM | apply ex_alloc | apply ex_plus | apply ex_drew | apply ex_drewN | (apply ex_on; assumption)))⟩

set_option maxHeartbeats 4000000 in
theorem rcheck_calls (va ua pa : Option Addr) (vn vc un uc pn pc : Nat) (hs : List PH) (m : Ms) (w : World) (hm : MeshAt w ⟨va, vn, vc, ua, un, uc, pa, pn, pc⟩ hs m) :
    Calls Tryz.prog 142 #[.agg #[.slice va vn vc, .slice ua un uc, .slice pa pn pc]] w fun e w' => e = .returned (.int .i64 (msErr m)) ∧ Below w.heap.size w w' := by
  have hvl : Lay fV w va vn m.vs := hm.vl
  have hul : Lay f2 w ua un m.uv := hm.ul
  have hpl : Lay fP w pa pn hs := hm.pl
  have hpp : PrimsAt w hs m.ps := hm.pp
  have lv := hvl.len
  have lu := hul.len
  have lp := hpl.len
  have lq := hpp.len
  by_cases h1 : 64 < vn
  · rw [show msErr m = 4 from if_pos (.inl (by omega))]
    have i1 : (64 : Int) < (vn : Int) := by omega
    go_enter Tryz.func142, Tryz.ntmps142
    go_wp2_with (go_at_call 174; refine (plus_post (may_callsM _ _ _ _ _ _ _ _ _ hs m _ (hm.ex (by with_reducible repeat (first | exact ex_refl _ | exact ex_moreM | apply ex_alloc | apply ex_plus | apply ex_drew | apply ex_drewN))) (by omega) (by omega))).mono ?_; rintro e w' ⟨rfl, nx, rfl⟩; rw [ho])
    go_ret
    exact ⟨rfl, by with_reducible repeat (first | exact Below.refl _ _ | apply ba | apply bp | apply bd | apply bn)⟩
  have i1 : ¬ (64 : Int) < (vn : Int) := by omega
  by_cases h2 : 64 < un
  · rw [show msErr m = 4 from if_pos (.inr (.inl (by omega)))]
    have i2 : (64 : Int) < (un : Int) := by omega
    go_enter Tryz.func142, Tryz.ntmps142
    go_wp2_with (go_at_call 174; refine (plus_post (may_callsM _ _ _ _ _ _ _ _ _ hs m _ (hm.ex (by with_reducible repeat (first | exact ex_refl _ | exact ex_moreM | apply ex_alloc | apply ex_plus | apply ex_drew | apply ex_drewN))) (by omega) (by omega))).mono ?_; rintro e w' ⟨rfl, nx, rfl⟩; rw [ho])
    go_ret
    exact ⟨rfl, by with_reducible repeat (first | exact Below.refl _ _ | apply ba | apply bp | apply bd | apply bn)⟩
  have i2 : ¬ (64 : Int) < (un : Int) := by omega
  by_cases h3 : 16 < pn
  · rw [show msErr m = 4 from if_pos (.inr (.inr (by omega)))]
    have i3 : (16 : Int) < (pn : Int) := by omega
    go_enter Tryz.func142, Tryz.ntmps142
    go_wp2_with (go_at_call 174; refine (plus_post (may_callsM _ _ _ _ _ _ _ _ _ hs m _ (hm.ex (by with_reducible repeat (first | exact ex_refl _ | exact ex_moreM | apply ex_alloc | apply ex_plus | apply ex_drew | apply ex_drewN))) (by omega) (by omega))).mono ?_; rintro e w' ⟨rfl, nx, rfl⟩; rw [ho])
    go_ret
    exact ⟨rfl, by with_reducible repeat (first | exact Below.refl _ _ | apply ba | apply bp | apply bd | apply bn)⟩
  have i3 : ¬ (16 : Int) < (pn : Int) := by omega
  have hM : ¬ (64 < m.vs.length ∨ 64 < m.uv.length ∨ 16 < m.ps.length) := by omega
  rw [msErr, if_neg hM]
  cases ho : msOk m
  · rw [if_neg (by decide)]
    go_enter Tryz.func142, Tryz.ntmps142
    go_wp2_with (go_at_call 174; refine (plus_post (may_callsM _ _ _ _ _ _ _ _ _ hs m _ (hm.ex (by with_reducible repeat (first | exact ex_refl _ | exact ex_moreM | apply ex_alloc | apply ex_plus | apply ex_drew | apply ex_drewN))) (by omega) (by omega))).mono ?_; rintro e w' ⟨rfl, nx, rfl⟩; rw [ho])
    go_ret
    exact ⟨rfl, by with_reducible repeat (first | exact Below.refl _ _ | apply ba | apply bp | apply bd | apply bn)⟩
  rw [if_pos rfl]
  go_enter Tryz.func142, Tryz.ntmps142
  go_wp2_with (go_at_call 174; refine (plus_post (may_callsM _ _ _ _ _ _ _ _ _ hs m _ (hm.ex (by with_reducible repeat (first | exact ex_refl _ | exact ex_moreM | apply ex_alloc | apply ex_plus | apply ex_drew | apply ex_drewN))) (by omega) (by omega))).mono ?_; rintro e w' ⟨rfl, nx, rfl⟩; rw [ho])
  go_ret
  exact ⟨rfl, by with_reducible repeat (first | exact Below.refl _ _ | apply ba | apply bp | apply bd | apply bn)⟩

end

section


open Go.RowKit Go.ChangeShapes Go.WideShapes Go.ChangeAt

set_option linter.unusedSimpArgs false

set_option linter.unusedVariables false

attribute [local go_sem] plus_size plus_drew dn_set dn_alloc dn_plus plus_dn cell_plus frozen_plus set_plus cell_alloc frozen_alloc set_alloc

def fB (b : Bool) : List Value := [.bool b]

theorem fB_c : ∀ x, (fB x).length = 1 := fun _ => rfl

theorem cellB {w : World} {g off n k : Nat} {l : List Bool} (hl : l.length = n) (h : ∀ j u, (l.flatMap fB)[j]? = some u → w.cell? ⟨g, off + j, none⟩ = some u) (hk : k < n) : w.cell? ⟨g, off + k, none⟩ = some (.bool (nth false l k)) := by
  have h0 := cell_nth (d := false) hl fB_c h k 0 _ hk (by decide) rfl
  rwa [Nat.mul_one, Nat.add_zero] at h0

theorem flat_false : ∀ n, (List.replicate n false).flatMap fB = List.replicate n (Value.bool false)
  | 0 => rfl
  | n + 1 => by rw [List.replicate_succ, List.flatMap_cons, flat_false n, List.replicate_succ]; rfl

theorem make_bools (n : Nat) (hn : n ≤ 100000) (w : World) : (Instr.makeSlice 202 (.int .i64 n) (.int .i64 n)).run Tryz.prog w = .ok (.slice (some ⟨w.heap.size, 0, none⟩) n n) (w.alloc (.cells ((List.replicate n false).flatMap fB).toArray 4)) := by
  obtain ⟨i, hi, hz, h1, h2⟩ := info_parts (show (Tryz.prog.info? 4).map (fun i => (i.zero, i.size, i.bytes)) = some (some (.bool false), 1, 1) by kernel_rfl)
  have h := run_make w 202 4 i (.bool false) Tryz.underlying202 hi hz .i64 .i64 n n (by omega) (Int.le_refl _) (by rw [h2]; omega) (by omega)
  rw [Int.toNat_natCast, h1, Nat.mul_one] at h
  rw [flat_false]
  have e := toList_madeCells_one (.bool false) n
  rw [← e]
  exact h

/-- one mark more -/
theorem Own.mark {w T : World} {b n cap : Nat} {o : List Bool} (h : Own 4 1 fB T w (some ⟨b, 0, none⟩) n cap o) (k : Nat) (hk : k < n) : Own 4 1 fB T (w.setCell ⟨b, k, none⟩ (.bool true)) (some ⟨b, 0, none⟩) n cap (o.set k true) := by
  have := h.set_self (u := .bool true) k 0 true false hk fB_c (by decide) rfl
  rwa [Nat.mul_one, Nat.add_zero] at this

/-- all that a walk asks of a list of marks at a place -/
theorem Own.markAt {w T : World} {b n cap : Nat} {o : List Bool} (h : Own 4 1 fB T w (some ⟨b, 0, none⟩) n cap o) {k : Nat} (hk : k < n) : w.cell? ⟨b, k, none⟩ = some (.bool (nth false o k)) ∧ w.frozen? ⟨b, k, none⟩ = false ∧ b < w.heap.size ∧ T.heap.size ≤ b := by
  obtain ⟨_, cur, eqa, hT, hb, _⟩ := h.blk (by omega)
  cases eqa
  obtain ⟨_, _, eqa, hlt, hc⟩ := h.lay.some (by omega)
  cases eqa
  have c := cellB h.1 hc hk
  rw [Nat.zero_add] at c
  exact ⟨c, frozen_blk hb, hlt, hT⟩

/-- all children are nodes -/
def Kin6 (g : Gr) : Prop := ∀ i, i < g.ks.length → ∀ x, x ∈ nth [] g.ks i → 0 ≤ x.1 ∧ x.1.toNat < g.ks.length

theorem kof_nth {g : Gr} {i k : Nat} (hk : k < (nth [] g.ks i).length) : nth 0 (kof g.ks i) k = (nth (0, 0) (nth [] g.ks i) k).1.toNat := nth_map (d := ((0, 0) : Int × Int)) (e := 0) (f := fun h => h.1.toNat) rfl (nth [] g.ks i) k

theorem kof_len (ks : List (List (Int × Int))) (i : Nat) : (kof ks i).length = (nth [] ks i).length := by simp [kof]

end

section


open Go.RowKit Go.ChangeShapes Go.WideShapes Go.ChangeAt

set_option linter.unusedSimpArgs false

set_option linter.unusedVariables false

attribute [local go_sem] plus_size plus_drew dn_set dn_alloc dn_plus plus_dn cell_plus frozen_plus set_plus cell_alloc frozen_alloc set_alloc

theorem cnt_set : ∀ {o : List Bool} {k : Nat}, k < o.length → nth false o k = false → cnt (o.set k true) = cnt o + 1
  | [], k, h, _ => by simp at h
  | a :: o, 0, _, h => by
    rw [nth_cons_zero] at h
    subst h
    simp [cnt]
  | a :: o, k + 1, h, h2 => by
    rw [nth_cons_succ] at h2
    have := cnt_set (o := o) (k := k) (by simpa using h) h2
    unfold cnt at *
    rw [List.set_cons_succ, List.countP_cons, List.countP_cons, this]
    omega

def allTo (o : List Bool) (cs : List Nat) (k : Nat) : Bool := (cs.take k).all fun c => nth false o c

theorem allTo_succ {o : List Bool} {cs : List Nat} {k : Nat} (hk : k < cs.length) : allTo o cs (k + 1) = (allTo o cs k && nth false o (nth 0 cs k)) := by
  unfold allTo
  rw [take_nth (d := 0) hk, List.all_append]
  simp

theorem allTo_all (o : List Bool) (cs : List Nat) : allTo o cs cs.length = cs.all fun c => nth false o c := by
  unfold allTo
  rw [List.take_length]

set_option maxRecDepth 100000 in
set_option maxHeartbeats 8000000 in
theorem loose_calls (ao : Option Addr) (n cap : Nat) (ko : Option Addr) (kn kcap : Nat) (hs : List RH) (g : Gr) (w : World) (hG : GrAt w ao n ko kn hs g) (hK : Kin6 g) :
    Calls Tryz.prog 141 #[.agg #[.slice ao n cap, .slice ko kn kcap]] w fun e w' => e = .returned (.bool (looseB g)) ∧ Below w.heap.size w w' := by
  have hlen := hG.kl
  have hkh := hG.kh.len
  have b3 := hG.n2
  have hmk := make_bools kn (by omega)
  have hLB : looseB g = decide (cnt (countedL (kof g.ks) kn) = kn) := by rw [looseB, hlen]
  go_enter Tryz.func141, Tryz.ntmps141
  go_upto_region 2 with fail
  have o0 : Own 4 1 fB (w.alloc (.cells #[.slice ao n cap, .slice ko kn kcap] 27)) ((w.alloc (.cells #[.slice ao n cap, .slice ko kn kcap] 27)).alloc (.cells ((List.replicate kn false).flatMap fB).toArray 4)) (some ⟨w.heap.size + 1, 0, none⟩) kn kn (List.replicate kn false) := own_row (by simp) fB_c (by rw [blk_alloc, if_pos (by simp)]) (by simp) (by unfold maxLen; omega)
  have hx0 : ∃ y, (w.alloc (.cells #[.slice ao n cap, .slice ko kn kcap] 27)).alloc (.cells ((List.replicate kn false).flatMap fB).toArray 4) = plus (w.alloc (.cells #[.slice ao n cap, .slice ko kn kcap] 27)) y := (by with_reducible repeat (first | exact ex_refl _ | exact ex_more | apply ex_alloc | apply ex_plus | apply ex_drew | apply ex_drewN))
  generalize (w.alloc (.cells #[.slice ao n cap, .slice ko kn kcap] 27)).alloc (.cells ((List.replicate kn false).flatMap fB).toArray 4) = w1 at *
  have t1 : (w.alloc (.cells #[.slice ao n cap, .slice ko kn kcap] 27)).cell? ⟨w.heap.size, 1, none⟩ = some (.slice ko kn kcap) := by simp [go_sem]
  have hG' : GrAt (w.alloc (.cells #[.slice ao n cap, .slice ko kn kcap] 27)) ao n ko kn hs g := hG.ex (by with_reducible repeat (first | exact ex_refl _ | exact ex_more | apply ex_alloc | apply ex_plus | apply ex_drew | apply ex_drewN))
  have hTx : ∃ y, (w.alloc (.cells #[.slice ao n cap, .slice ko kn kcap] 27)) = plus w y := (by with_reducible repeat (first | exact ex_refl _ | exact ex_more | apply ex_alloc | apply ex_plus | apply ex_drew | apply ex_drewN))
  clear hG
  generalize (w.alloc (.cells #[.slice ao n cap, .slice ko kn kcap] 27)) = T at *
  have e1 := cell_ex hx0 t1
  go_wp2
  go_loopw [4, 5] (fun m i wr => ∃ r : Nat, r ≤ kn ∧ m = .int .i64 (cnt (rndL (kof g.ks) kn (List.replicate kn false) r)) ∧ i = .int .i64 r ∧ (∃ y, wr = plus T y) ∧ Own 4 1 fB T wr (some ⟨w.heap.size + 1, 0, none⟩) kn kn (rndL (kof g.ks) kn (List.replicate kn false) r)) (fun _ i _ => kn - (intOf i).toNat)
  case atStart => exact ⟨0, Nat.zero_le _, by (show _ = Value.int .i64 ((cnt (List.replicate kn false) : Nat) : Int)); rw [show cnt (List.replicate kn false) = 0 by simp [cnt]]; rfl, rfl, hx0, o0⟩
  case round =>
    clear e1 o0 hx0
    obtain ⟨r, hr, rfl, rfl, hx3, o3⟩ := hrel
    have e1 := cell_ex hx3 t1
    by_cases hrl : r < kn
    rotate_left
    · have ir : ¬ (r : Int) < (kn : Int) := by omega
      obtain rfl : r = kn := by omega
      by_cases hc : cnt (countedL (kof g.ks) r) = r
      · have dc : ((cnt (rndL (kof g.ks) r (List.replicate r false) r) : Int) == (r : Int)) = true := by rw [beq_iff_eq]; exact congrArg _ hc
        go_wp2
        go_ret
        exact ⟨by first | rfl | (rw [hLB, decide_eq_true hc]; rfl), below_ex (ex_on hx3 hTx)⟩
      · have dc : ((cnt (rndL (kof g.ks) r (List.replicate r false) r) : Int) == (r : Int)) = false := by
          rw [beq_eq_false_iff_ne]
          intro e
          exact hc (Int.ofNat_inj.1 e)
        go_wp2
        go_ret
        exact ⟨by first | rfl | (rw [hLB, decide_eq_false hc]; rfl), below_ex (ex_on hx3 hTx)⟩
    have ir : (r : Int) < (kn : Int) := by omega
    obtain ⟨kg, kf, rfl, hkg, hkc⟩ := hG'.kh.some (by omega)
    go_wp2
    go_loopw [4, 6] (fun m i_ wr => ∃ i : Nat, i ≤ kn ∧ m = .int .i64 (cnt (midL (kof g.ks) (rndL (kof g.ks) kn (List.replicate kn false) r) i)) ∧ i_ = .int .i64 i ∧ (∃ y, wr = plus T y) ∧ Own 4 1 fB T wr (some ⟨w.heap.size + 1, 0, none⟩) kn kn (midL (kof g.ks) (rndL (kof g.ks) kn (List.replicate kn false) r) i)) (fun _ i _ => kn - (intOf i).toNat)
    case atStart => exact ⟨0, Nat.zero_le _, rfl, rfl, hx3, o3⟩
    case round =>
      clear e1 o3 hx3
      obtain ⟨i, hi, rfl, rfl, hx4, o4⟩ := hrel
      have e1 := cell_ex hx4 t1
      by_cases hil : i < kn
      rotate_left
      · have ii : ¬ (i : Int) < (kn : Int) := by omega
        obtain rfl : i = kn := by omega
        go_wp2
        go_roundw
        case rel => exact ⟨r + 1, by omega, rfl, by go_num, hx4, o4⟩
        case measure => simp [intOf]; omega
      have ii : (i : Int) < (kn : Int) := by omega
      have c1 := cellR hkh hkc hil
      have hrow := hG'.row i (by omega)
      have hrl' := hrow.len
      have hn3 := hG'.n3 i (by omega)
      have e2 := cell_ex hx4 c1
      obtain ⟨q0, q1, q2, q3⟩ := o4.markAt hil
      go_wp2
      go_loopw [7, 8] (fun b i_ wz => ∃ k : Nat, k ≤ (nth dRH hs i).n ∧ b = .bool (allTo (midL (kof g.ks) (rndL (kof g.ks) kn (List.replicate kn false) r) i) (kof g.ks i) k) ∧ i_ = .int .i64 k ∧ wz = wr) (fun _ i_ _ => (nth dRH hs i).n - (intOf i_).toNat)
      case atStart => exact ⟨0, Nat.zero_le _, rfl, rfl, rfl⟩
      case round =>
        obtain ⟨k, hk, rfl, rfl, rfl⟩ := hrel
        by_cases hkl : k < (nth dRH hs i).n
        rotate_left
        · have ik : ¬ (k : Int) < ((nth dRH hs i).n : Int) := by omega
          obtain rfl : k = (nth dRH hs i).n := by omega
          have hall := allTo_all (midL (kof g.ks) (rndL (kof g.ks) kn (List.replicate kn false) r) i) (kof g.ks i)
          rw [kof_len, hrl'] at hall
          have hmid : midL (kof g.ks) (rndL (kof g.ks) kn (List.replicate kn false) r) (i + 1) = stpL (kof g.ks) (midL (kof g.ks) (rndL (kof g.ks) kn (List.replicate kn false) r) i) i := rfl
          cases ha : allTo (midL (kof g.ks) (rndL (kof g.ks) kn (List.replicate kn false) r) i) (kof g.ks i) (nth dRH hs i).n
          · have hst : stpL (kof g.ks) (midL (kof g.ks) (rndL (kof g.ks) kn (List.replicate kn false) r) i) i = (midL (kof g.ks) (rndL (kof g.ks) kn (List.replicate kn false) r) i) := by rw [stpL, ← hall, ha]; rfl
            go_wp2
            go_roundw
            case rel => exact ⟨i + 1, by omega, by rw [hmid, hst], by go_num, hx4, by rw [hmid, hst]; exact o4⟩
            case measure => simp [intOf]; omega
          cases hv : nth false (midL (kof g.ks) (rndL (kof g.ks) kn (List.replicate kn false) r) i) i
          rotate_left
          · have hst : stpL (kof g.ks) (midL (kof g.ks) (rndL (kof g.ks) kn (List.replicate kn false) r) i) i = (midL (kof g.ks) (rndL (kof g.ks) kn (List.replicate kn false) r) i) := by rw [stpL, ← hall, ha, hv]; rfl
            rw [hv] at q0
            go_wp2
            go_roundw
            case rel => exact ⟨i + 1, by omega, by rw [hmid, hst], by go_num, hx4, by rw [hmid, hst]; exact o4⟩
            case measure => simp [intOf]; omega
          · have hst : stpL (kof g.ks) (midL (kof g.ks) (rndL (kof g.ks) kn (List.replicate kn false) r) i) i = (midL (kof g.ks) (rndL (kof g.ks) kn (List.replicate kn false) r) i).set i true := by rw [stpL, ← hall, ha, hv]; rfl
            rw [hv] at q0
            have hcs := cnt_set (o := (midL (kof g.ks) (rndL (kof g.ks) kn (List.replicate kn false) r) i)) (k := i) (by rw [o4.1]; exact hil) hv
            have hcl := cnt_len (midL (kof g.ks) (rndL (kof g.ks) kn (List.replicate kn false) r) i)
            rw [o4.1] at hcl
            have iwc : IntKind.i64.wrap ((cnt (midL (kof g.ks) (rndL (kof g.ks) kn (List.replicate kn false) r) i) : Int) + 1) = (cnt (midL (kof g.ks) (rndL (kof g.ks) kn (List.replicate kn false) r) i) : Int) + 1 := wrap_le (by omega)
            go_wp2
            go_roundw
            case rel => exact ⟨i + 1, by omega, by rw [hmid, hst, hcs]; go_num, by go_num, ex_set_new hx4 q3, by rw [hmid, hst]; exact o4.mark i hil⟩
            case measure => simp [intOf]; omega
        have ik : (k : Int) < ((nth dRH hs i).n : Int) := by omega
        obtain ⟨rg, ro, hra, hrg, hrc⟩ := hrow.some (by omega)
        obtain ⟨x0, x1⟩ := cell2 hrl' hrc hkl
        have f0 := cell_ex hx4 x0
        rw [hra] at e2
        have hmem : nth (0, 0) (nth [] g.ks i) k ∈ nth [] g.ks i := nth_mem (by omega)
        obtain ⟨p0, p1⟩ := hK i (by omega) _ hmem
        rw [hlen] at p1
        have hsucc := allTo_succ (o := (midL (kof g.ks) (rndL (kof g.ks) kn (List.replicate kn false) r) i)) (cs := kof g.ks i) (k := k) (by rw [kof_len, hrl']; exact hkl)
        rw [kof_nth (by omega)] at hsucc
        obtain ⟨c, hcE⟩ : ∃ c : Nat, (nth (0, 0) (nth [] g.ks i) k).1 = (c : Int) := ⟨_, (Int.toNat_of_nonneg p0).symm⟩
        rw [hcE] at f0 p1 hsucc
        rw [Int.toNat_natCast] at p1 hsucc
        have ic : (c : Int) < (kn : Int) := by omega
        obtain ⟨u0, u1, u2, u3⟩ := o4.markAt p1
        cases hv : nth false (midL (kof g.ks) (rndL (kof g.ks) kn (List.replicate kn false) r) i) c
        · rw [hv] at u0
          rw [hv, Bool.and_false] at hsucc
          go_wp2
          go_roundw
          case rel => exact ⟨k + 1, by omega, by rw [hsucc], by go_num, by first | rfl | trivial⟩
          case measure => simp [intOf]; omega
        · rw [hv] at u0
          rw [hv, Bool.and_true] at hsucc
          go_wp2
          go_roundw
          case rel => exact ⟨k + 1, by omega, by rw [hsucc], by go_num, by first | rfl | trivial⟩
          case measure => simp [intOf]; omega

end

section


open Go.RowKit Go.ChangeShapes Go.WideShapes Go.ChangeAt

set_option linter.unusedSimpArgs false

set_option linter.unusedVariables false

attribute [local go_sem] plus_size plus_drew dn_set dn_alloc dn_plus plus_dn cell_plus frozen_plus set_plus cell_alloc frozen_alloc set_alloc

theorem rows_no {g : Gr} {i : Nat} (hi : i < g.ks.length) (h : rowOk g.sl i (nth [] g.ks i) = false) : rowsOk g = false := by
  cases hv : rowsOk g with
  | false => rfl
  | true =>
    have := List.all_eq_true.1 hv i (List.mem_range.2 hi)
    rw [h] at this
    cases this

theorem rows_yes {g : Gr} (h : ∀ i, i < g.ks.length → rowOk g.sl i (nth [] g.ks i) = true) : rowsOk g = true := List.all_eq_true.2 fun i hi => h i (List.mem_range.1 hi)

theorem kin6_of {g : Gr} (h2 : g.ks.length = g.sl.length) (h3 : rowsOk g = true) : Kin6 g := by
  intro i hi x hx
  have := held_lt ((rows_at h3 hi).2.2 x hx)
  omega

theorem aheld_is {ao : Option Addr} {n cap : Nat} {l : List Sl} {s g : Int} {w : World} {b : Bool} (h : heldIn l s g = b) (hl : Lay fS w ao n l) (hn : n ≤ 1000) :
    Calls Tryz.prog 140 #[.agg #[.slice ao n cap], .agg #[.int .i64 s, .int .i64 g]] w fun e w' => e = .returned (.bool b) ∧ Below w.heap.size w w' := by
  subst h
  exact aheld_calls ao n cap l s g w hl (by omega)

set_option maxRecDepth 100000 in
set_option maxHeartbeats 8000000 in
theorem gmay_calls (ao : Option Addr) (n cap : Nat) (ko : Option Addr) (kn kcap : Nat) (hs : List RH) (g : Gr) (w : World) (hG : GrAt w ao n ko kn hs g) :
    Calls Tryz.prog 88 #[.agg #[.slice ao n cap, .slice ko kn kcap]] w fun e w' => e = .returned (.bool (grOk g)) ∧ Below w.heap.size w w' := by
  have hlen := hG.kl
  have hkh := hG.kh.len
  have hsl := hG.sl.len
  have b1 := hG.n1
  have b3 := hG.n2
  cases hO : arOk g.sl
  · rw [show grOk g = false by rw [grOk, hO]; rfl]
    go_enter Tryz.func88, Tryz.ntmps88
    go_wp2_with (go_at_call 139; refine (plus_post (amay_calls _ _ _ g.sl _ (hG.sl.ex (by with_reducible repeat (first | exact ex_refl _ | exact ex_more | apply ex_alloc | apply ex_plus | apply ex_drew | apply ex_drewN))) (by omega))).mono ?_; rintro e w' ⟨rfl, nx, rfl⟩; rw [hO])
    go_ret
    exact ⟨rfl, by with_reducible repeat (first | exact Below.refl _ _ | apply ba | apply bp | apply bd | apply bn)⟩
  by_cases hne : kn = n
  rotate_left
  · rw [show grOk g = false by rw [grOk, decide_eq_false (show ¬ g.ks.length = g.sl.length by omega), Bool.and_false, Bool.false_and]]
    have ine : ¬ (kn : Int) = (n : Int) := by omega
    have dne : ((kn : Int) == (n : Int)) = false := by rw [beq_eq_false_iff_ne]; omega
    go_enter Tryz.func88, Tryz.ntmps88
    go_wp2_with (go_at_call 139; refine (plus_post (amay_calls _ _ _ g.sl _ (hG.sl.ex (by with_reducible repeat (first | exact ex_refl _ | exact ex_more | apply ex_alloc | apply ex_plus | apply ex_drew | apply ex_drewN))) (by omega))).mono ?_; rintro e w' ⟨rfl, nx, rfl⟩; rw [hO])
    go_ret
    exact ⟨rfl, by with_reducible repeat (first | exact Below.refl _ _ | apply ba | apply bp | apply bd | apply bn)⟩
  subst hne
  have hle : g.ks.length = g.sl.length := by omega
  rw [show grOk g = (rowsOk g && looseB g) by rw [grOk, hO, decide_eq_true hle]; rfl]
  go_enter Tryz.func88, Tryz.ntmps88
  go_wp2_with (go_at_call 139; refine (plus_post (amay_calls _ _ _ g.sl _ (hG.sl.ex (by with_reducible repeat (first | exact ex_refl _ | exact ex_more | apply ex_alloc | apply ex_plus | apply ex_drew | apply ex_drewN))) (by omega))).mono ?_; rintro e w' ⟨rfl, nx, rfl⟩; rw [hO])
  go_loopw [3] (fun i_ wr => ∃ i : Nat, i ≤ kn ∧ i_ = .int .i64 i ∧ (∀ j, j < i → rowOk g.sl j (nth [] g.ks j) = true) ∧ ∃ x, wr = plus (plus (w.alloc (.cells #[.slice ao kn cap, .slice ko kn kcap] 27)) nx) x) (fun i _ => kn - (intOf i).toNat)
  case atStart => exact ⟨0, Nat.zero_le _, rfl, fun j hj => by omega, (by with_reducible repeat (first | exact ex_refl _ | exact ex_more | apply ex_alloc | apply ex_plus | apply ex_drew | apply ex_drewN))⟩
  case round =>
    obtain ⟨i, hi, rfl, hrows, x, rfl⟩ := hrel
    by_cases hil : i < kn
    rotate_left
    · have ii : ¬ (i : Int) < (kn : Int) := by omega
      have hR : rowsOk g = true := rows_yes fun j hj => hrows j (by omega)
      go_wp2_with (go_at_call 141; refine (plus_post (loose_calls _ _ _ _ _ _ hs g _ (hG.ex (by with_reducible repeat (first | exact ex_refl _ | exact ex_more | apply ex_alloc | apply ex_plus | apply ex_drew | apply ex_drewN))) (kin6_of hle hR))).mono ?_; rintro e w' ⟨rfl, nl, rfl⟩)
      go_ret
      exact ⟨by first | rfl | (rw [hR, Bool.true_and]; rfl), by with_reducible repeat (first | exact Below.refl _ _ | apply ba | apply bp | apply bd | apply bn)⟩
    have ii : (i : Int) < (kn : Int) := by omega
    obtain ⟨kg, kf, rfl, hkg, hkc⟩ := hG.kh.some (by omega)
    obtain ⟨sg, sf, rfl, hsg, hsc⟩ := hG.sl.some (by omega)
    have c1 := cellR hkh hkc hil
    obtain ⟨v0, v1⟩ := cellS hsl hsc hil
    have hrow := hG.row i (by omega)
    have hrl := hrow.len
    have hn3 := hG.n3 i (by omega)
    by_cases h16 : 16 < (nth dRH hs i).n
    · have i16 : (16 : Int) < ((nth dRH hs i).n : Int) := by omega
      have hno : rowsOk g = false := rows_no (i := i) (by omega) (by rw [rowOk, decide_eq_false (by omega), Bool.false_and])
      go_wp2
      go_ret
      exact ⟨by first | rfl | (rw [hno, Bool.false_and]; rfl), by with_reducible repeat (first | exact Below.refl _ _ | apply ba | apply bp | apply bd | apply bn)⟩
    have i16 : ¬ (16 : Int) < ((nth dRH hs i).n : Int) := by omega
    have d16 := decide_eq_false i16
    have hcond : (nth dRH hs i).n = 0 ∨ (nth dSl g.sl i).live = true ∨ ((nth dSl g.sl i).live = false ∧ 0 < (nth dRH hs i).n) := by
      by_cases h0 : (nth dRH hs i).n = 0
      · exact .inl h0
      · cases hv : (nth dSl g.sl i).live
        · exact .inr (.inr ⟨rfl, by omega⟩)
        · exact .inr (.inl rfl)
    rcases hcond with h0 | hv | ⟨hv, h0⟩
    rotate_right
    · rw [hv] at v1
      have i0 : (0 : Int) < ((nth dRH hs i).n : Int) := by omega
      have hno : rowsOk g = false := rows_no (i := i) (by omega) (by rw [rowOk, hv, decide_eq_false (show ¬ (nth [] g.ks i).length = 0 by omega)]; simp)
      go_wp2
      go_ret
      exact ⟨by first | rfl | (rw [hno, Bool.false_and]; rfl), by with_reducible repeat (first | exact Below.refl _ _ | apply ba | apply bp | apply bd | apply bn)⟩
    · have i0 : ¬ (0 : Int) < ((nth dRH hs i).n : Int) := by omega
      have d0 : decide (0 < (nth dRH hs i).n) = false := decide_eq_false (by omega)
      have ik : ¬ (0 : Int) < ((nth dRH hs i).n : Int) := i0
      have hok : rowOk g.sl i (nth [] g.ks i) = true := by
        have e : nth [] g.ks i = [] := List.eq_nil_of_length_eq_zero (by omega)
        rw [e]
        rfl
      clear h0
      go_wp2
      go_loopw [4] (fun k_ wz => ∃ k : Nat, k ≤ (nth dRH hs i).n ∧ k_ = .int .i64 k ∧ (∀ j, j < k → heldIn g.sl (nth (0, 0) (nth [] g.ks i) j).1 (nth (0, 0) (nth [] g.ks i) j).2 = true) ∧ ∃ y, wz = plus (plus (plus (w.alloc (.cells #[.slice (some ⟨sg, sf, none⟩) kn cap, .slice (some ⟨kg, kf, none⟩) kn kcap] 27)) nx) x) y) (fun k_ _ => (nth dRH hs i).n - (intOf k_).toNat)
      case atStart => exact ⟨0, Nat.zero_le _, rfl, fun j hj => by omega, (by with_reducible repeat (first | exact ex_refl _ | exact ex_more | apply ex_alloc | apply ex_plus | apply ex_drew | apply ex_drewN))⟩
      case round =>
        obtain ⟨k, hk, rfl, hh, y, rfl⟩ := hrel
        obtain rfl : k = 0 := by omega
        have ikk : ¬ ((0 : Nat) : Int) < ((nth dRH hs i).n : Int) := by omega
        go_wp2
        go_roundw
        case rel => exact ⟨i + 1, by omega, by go_num, upto_succ hrows hok, (by with_reducible repeat (first | exact ex_refl _ | exact ex_more | apply ex_alloc | apply ex_plus | apply ex_drew | apply ex_drewN))⟩
        case measure => simp [intOf]; omega
    · rw [hv] at v1
      have hpre : rowOk g.sl i (nth [] g.ks i) = (nth [] g.ks i).all fun h => heldIn g.sl h.1 h.2 := by
        rw [rowOk, hv, decide_eq_true (show (nth [] g.ks i).length ≤ 16 by omega), Bool.or_true, Bool.true_and, Bool.true_and]
      by_cases hz : 0 < (nth dRH hs i).n
      · have i0 : (0 : Int) < ((nth dRH hs i).n : Int) := by omega
        have d0 : decide (0 < (nth dRH hs i).n) = true := decide_eq_true hz
        go_wp2
        go_loopw [4] (fun k_ wz => ∃ k : Nat, k ≤ (nth dRH hs i).n ∧ k_ = .int .i64 k ∧ (∀ j, j < k → heldIn g.sl (nth (0, 0) (nth [] g.ks i) j).1 (nth (0, 0) (nth [] g.ks i) j).2 = true) ∧ ∃ y, wz = plus (plus (plus (w.alloc (.cells #[.slice (some ⟨sg, sf, none⟩) kn cap, .slice (some ⟨kg, kf, none⟩) kn kcap] 27)) nx) x) y) (fun k_ _ => (nth dRH hs i).n - (intOf k_).toNat)
        case atStart => exact ⟨0, Nat.zero_le _, rfl, fun j hj => by omega, (by with_reducible repeat (first | exact ex_refl _ | exact ex_more | apply ex_alloc | apply ex_plus | apply ex_drew | apply ex_drewN))⟩
        case round =>
          obtain ⟨k, hk, rfl, hh, y, rfl⟩ := hrel
          by_cases hkl : k < (nth dRH hs i).n
          rotate_left
          · have ikk : ¬ (k : Int) < ((nth dRH hs i).n : Int) := by omega
            have hok : rowOk g.sl i (nth [] g.ks i) = true := by
              rw [hpre]
              exact all_yes (d := ((0, 0) : Int × Int)) (fun j hj => hh j (by omega))
            go_wp2
            go_roundw
            case rel => exact ⟨i + 1, by omega, by go_num, upto_succ hrows hok, (by with_reducible repeat (first | exact ex_refl _ | exact ex_more | apply ex_alloc | apply ex_plus | apply ex_drew | apply ex_drewN))⟩
            case measure => simp [intOf]; omega
          have ikk : (k : Int) < ((nth dRH hs i).n : Int) := by omega
          obtain ⟨rg, ro, hra, hrg, hrc⟩ := hrow.some (by omega)
          obtain ⟨x0, x1⟩ := cell2 hrl hrc hkl
          rw [hra] at c1
          cases hq : heldIn g.sl (nth (0, 0) (nth [] g.ks i) k).1 (nth (0, 0) (nth [] g.ks i) k).2
          · have hno : rowsOk g = false := rows_no (i := i) (by omega) (by rw [hpre]; exact all_not (d := ((0, 0) : Int × Int)) (k := k) (by omega) hq)
            go_wp2
            refine region_plus (by kernel_rfl) (by kernel_rfl) ?_
            (repeat (go_big_quiet_step ((go_at_call 140; exact plus_of (aheld_is hq (hG.sl.ex (by with_reducible repeat (first | exact ex_refl _ | exact ex_more | apply ex_alloc | apply ex_plus | apply ex_drew | apply ex_drewN))) (by omega))))))
            refine wpQuiet_nil ?_
            rintro _ ⟨x2, rfl⟩
            go_wp2
            go_ret
            exact ⟨by first | rfl | (rw [hno, Bool.false_and]; rfl), by with_reducible repeat (first | exact Below.refl _ _ | apply ba | apply bp | apply bd | apply bn)⟩
          · go_wp2
            refine region_plus (by kernel_rfl) (by kernel_rfl) ?_
            (repeat (go_big_quiet_step ((go_at_call 140; exact plus_of (aheld_is hq (hG.sl.ex (by with_reducible repeat (first | exact ex_refl _ | exact ex_more | apply ex_alloc | apply ex_plus | apply ex_drew | apply ex_drewN))) (by omega))))))
            refine wpQuiet_nil ?_
            rintro _ ⟨x2, rfl⟩
            go_wp2
            go_roundw
            case rel => exact ⟨k + 1, by omega, by go_num, upto_succ hh hq, (by with_reducible repeat (first | exact ex_refl _ | exact ex_more | apply ex_alloc | apply ex_plus | apply ex_drew | apply ex_drewN))⟩
            case measure => simp [intOf]; omega
      · have i0 : ¬ (0 : Int) < ((nth dRH hs i).n : Int) := by omega
        have d0 : decide (0 < (nth dRH hs i).n) = false := decide_eq_false hz
        have hok : rowOk g.sl i (nth [] g.ks i) = true := by
          have e : nth [] g.ks i = [] := List.eq_nil_of_length_eq_zero (by omega)
          rw [hpre, e]
          rfl
        go_wp2
        go_loopw [4] (fun k_ wz => ∃ k : Nat, k ≤ (nth dRH hs i).n ∧ k_ = .int .i64 k ∧ (∀ j, j < k → heldIn g.sl (nth (0, 0) (nth [] g.ks i) j).1 (nth (0, 0) (nth [] g.ks i) j).2 = true) ∧ ∃ y, wz = plus (plus (plus (w.alloc (.cells #[.slice (some ⟨sg, sf, none⟩) kn cap, .slice (some ⟨kg, kf, none⟩) kn kcap] 27)) nx) x) y) (fun k_ _ => (nth dRH hs i).n - (intOf k_).toNat)
        case atStart => exact ⟨0, Nat.zero_le _, rfl, fun j hj => by omega, (by with_reducible repeat (first | exact ex_refl _ | exact ex_more | apply ex_alloc | apply ex_plus | apply ex_drew | apply ex_drewN))⟩
        case round =>
          obtain ⟨k, hk, rfl, hh, y, rfl⟩ := hrel
          obtain rfl : k = 0 := by omega
          have ikk : ¬ ((0 : Nat) : Int) < ((nth dRH hs i).n : Int) := by omega
          go_wp2
          go_roundw
          case rel => exact ⟨i + 1, by omega, by go_num, upto_succ hrows hok, (by with_reducible repeat (first | exact ex_refl _ | exact ex_more | apply ex_alloc | apply ex_plus | apply ex_drew | apply ex_drewN))⟩
          case measure => simp [intOf]; omega

end

end Go.Proofs.YtcekcihijdipoaaGreat
