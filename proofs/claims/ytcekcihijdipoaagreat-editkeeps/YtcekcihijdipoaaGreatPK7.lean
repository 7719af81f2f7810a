/- A pack of texts: Mesh2, Mesh3, Mesh7, MeshMath3, Mesh11, Mesh12, Nodes2, Nodes3, Nodes4, Ed5, EdLs, LoadPart, StorePart, EdBox. -/
import Derived.Deep.DeepCutAuto
import Derived.BigQuiet
import Derived.Laws.Tables
import Derived.Test.YtcekcihijdipoaaGreatPK6
import Derived.Test.YtcekcihijdipoaaGreatPK1
import Derived.Test.YtcekcihijdipoaaGreatPK4
import Derived.Test.YtcekcihijdipoaaGreatPK3
namespace Go.Proofs.YtcekcihijdipoaaGreat

section


open Go.RowKit Go.ChangeShapes Go.WideShapes Go.ChangeAt

set_option linter.unusedSimpArgs false

set_option linter.unusedVariables false

attribute [local go_sem] plus_size plus_drew dn_set dn_alloc dn_plus plus_dn cell_plus frozen_plus set_plus cell_alloc frozen_alloc set_alloc

set_option maxHeartbeats 2000000 in
theorem stripOf_calls (ao : Option Addr) (n cap : Nat) (ix : List Int) (w : World) (hl : Lay fI w ao n ix) (hn : n ≤ 10000) :
    Calls Tryz.prog 191 #[.slice ao n cap] w fun e w' => ∃ ao' cap', e = .returned (.slice ao' (n - 2) cap') ∧ (∃ y, w' = plus w y) ∧ Own 40 3 fV w w' ao' (n - 2) cap' (firsts (stripT ix) (n - 2)) := by
  go_enter Tryz.func191, Tryz.ntmps191
  go_wp2
  go_loopw [3, 4] (fun v i wr => ∃ (k : Nat) (ao' : Option Addr) (cap' : Nat), k ≤ n - 2 ∧ i = .int .i64 (k : Nat) ∧ v = .slice ao' k cap' ∧ (∃ y, wr = plus w y) ∧ Own 40 3 fV w wr ao' k cap' (firsts (stripT ix) k)) (fun _ i _ => n - (intOf i).toNat)
  case atStart => exact ⟨0, none, 0, by omega, rfl, rfl, skM, own_nil⟩
  case round =>
    obtain ⟨k, ao', cap', hk, rfl, rfl, ⟨y, rfl⟩, hown⟩ := hrel
    by_cases hkl : k + 2 < n
    · obtain ⟨g, off, rfl, hg, hcell⟩ := hl.some (by omega)
      have c0 := cellI hl.len hcell (k := k) (by omega)
      have c1 := cellI hl.len hcell (k := k + 1) (by omega)
      have c2 := cellI hl.len hcell (k := k + 2) (by omega)
      have ik0 : (k : Int) < (n : Int) := by omega
      have ik1 : (k : Int) + 1 < (n : Int) := by omega
      have ip1 : (0 : Int) ≤ (k : Int) + 1 := by omega
      have iw1 : IntKind.i64.wrap ((k : Int) + 1) = (k : Int) + 1 := wrap_leM (by omega)
      have it1 : ((k : Int) + 1).toNat = k + 1 := by omega
      have ik2 : (k : Int) + 2 < (n : Int) := by omega
      have ip2 : (0 : Int) ≤ (k : Int) + 2 := by omega
      have iw2 : IntKind.i64.wrap ((k : Int) + 2) = (k : Int) + 2 := wrap_leM (by omega)
      have it2 : ((k : Int) + 2).toNat = k + 2 := by omega
      go_wp2
      refine region_fresh 15 5 (.cells #[.int .i64 0, .int .i64 0, .int .i64 0] 40) (by kernel_rfl) (by kernel_rfl) rfl (fun _ _ x _ _ h => by cases x <;> exact h) (fun _ _ => by kernel_rfl) ?_
      apply Exists.intro
      refine ⟨fun x0 => ?_, fun x1 x2 => ?_⟩
      · simp only [List.take_succ_cons, List.take_zero]
        (repeat (go_big_quiet_step (fail)))
        exact wpQuiet_nil rfl
      simp only [List.drop_succ_cons, List.drop_zero]
      by_cases np : k % 2 = 1
      · have ie : (k : Int) % 2 = 1 := by omega
        go_wp2_with (at_builtin; (refine wpList_append_lay (T := w) rfl _ _ rfl kinT fV_c fV_1 rfl skM (hown.ex skM) rfl (l2 := [stripT ix k]) ⟨rfl, .inr ⟨_, 0, rfl, by simp [go_sem]; try omega, fun jj u hu => by match jj, hu with | 0, hu => (simp [fV, stripT, np] at hu; subst hu; simp [go_sem, ↓IntWalk.iteOmega]) | 1, hu => (simp [fV, stripT, np] at hu; subst hu; simp [go_sem, ↓IntWalk.iteOmega]) | 2, hu => (simp [fV, stripT, np] at hu; subst hu; simp [go_sem, ↓IntWalk.iteOmega]) | jj + 3, hu => simp [fV] at hu⟩⟩ (by omega) (by decide) ?_; intro ao' cap' y' hown'))
        go_roundw
        case rel => exact ⟨k + 1, ao', cap', by omega, by go_num, rfl, ⟨y', rfl⟩, by rw [← firsts_succ]; exact hown'⟩
        case measure => simp [intOf]; omega
      have ie : ¬ (k : Int) % 2 = 1 := by omega
      go_wp2_with (at_builtin; (refine wpList_append_lay (T := w) rfl _ _ rfl kinT fV_c fV_1 rfl skM (hown.ex skM) rfl (l2 := [stripT ix k]) ⟨rfl, .inr ⟨_, 0, rfl, by simp [go_sem]; try omega, fun jj u hu => by match jj, hu with | 0, hu => (simp [fV, stripT, np] at hu; subst hu; simp [go_sem, ↓IntWalk.iteOmega]) | 1, hu => (simp [fV, stripT, np] at hu; subst hu; simp [go_sem, ↓IntWalk.iteOmega]) | 2, hu => (simp [fV, stripT, np] at hu; subst hu; simp [go_sem, ↓IntWalk.iteOmega]) | jj + 3, hu => simp [fV] at hu⟩⟩ (by omega) (by decide) ?_; intro ao' cap' y' hown'))
      go_roundw
      case rel => exact ⟨k + 1, ao', cap', by omega, by go_num, by rfl, ⟨y', rfl⟩, by rw [← firsts_succ]; exact hown'⟩
      case measure => simp [intOf]; omega
    · have ik : ¬ (k : Int) + 2 < (n : Int) := by omega
      obtain rfl : k = n - 2 := by omega
      go_wp2
      go_ret
      exact ⟨ao', cap', rfl, ⟨y, rfl⟩, hown⟩

end

section


open Go.RowKit Go.ChangeShapes Go.WideShapes Go.ChangeAt

set_option linter.unusedSimpArgs false

set_option linter.unusedVariables false

attribute [local go_sem] plus_size plus_drew dn_set dn_alloc dn_plus plus_dn cell_plus frozen_plus set_plus cell_alloc frozen_alloc set_alloc

theorem lengthMay_calls (kind : Int) (n : Nat) (w : World) (h0 : 0 ≤ kind) (h2 : kind ≤ 2) (hn : n ≤ 10000) :
    Calls Tryz.prog 181 #[.int .u8 kind, .int .i64 n] w fun e w' => e = .returned (.bool (lenOk kind n)) ∧ Below w.heap.size w w' := by
  rcases (show kind = 0 ∨ kind = 1 ∨ kind = 2 by omega) with rfl | rfl | rfl
  · by_cases h3 : n % 3 = 0
    · rw [show lenOk 0 n = true by simp [lenOk, h3]]
      have i3 : (n : Int) % 3 = 0 := by omega
      go_enter Tryz.func181, Tryz.ntmps181
      go_wp2
      go_ret
      exact ⟨rfl, by with_reducible repeat (first | exact Below.refl _ _ | apply ba | apply bp | apply bd | apply bn)⟩
    · rw [show lenOk 0 n = false by simp [lenOk, h3]]
      have i3 : ¬ (n : Int) % 3 = 0 := by omega
      have d3 : ((n : Int) % 3 == 0) = false := by simp [i3]
      go_enter Tryz.func181, Tryz.ntmps181
      go_wp2
      go_ret
      exact ⟨rfl, by with_reducible repeat (first | exact Below.refl _ _ | apply ba | apply bp | apply bd | apply bn)⟩
  · by_cases h3 : n = 0
    · subst h3
      rw [show lenOk 1 0 = true by simp [lenOk]]
      go_enter Tryz.func181, Tryz.ntmps181
      go_wp2
      go_ret
      exact ⟨rfl, by with_reducible repeat (first | exact Below.refl _ _ | apply ba | apply bp | apply bd | apply bn)⟩
    · by_cases h4 : 3 ≤ n
      · rw [show lenOk 1 n = true by simp [lenOk, h4]]
        have i3 : ¬ (n : Int) = 0 := by omega
        have d3 : ((n : Int) == 0) = false := by simp [h3]
        have i4 : (3 : Int) ≤ (n : Int) := by omega
        go_enter Tryz.func181, Tryz.ntmps181
        go_wp2
        go_ret
        exact ⟨rfl, by with_reducible repeat (first | exact Below.refl _ _ | apply ba | apply bp | apply bd | apply bn)⟩
      · rw [show lenOk 1 n = false by simp [lenOk, h3, h4]]
        have i3 : ¬ (n : Int) = 0 := by omega
        have d3 : ((n : Int) == 0) = false := by simp [h3]
        have i4 : ¬ (3 : Int) ≤ (n : Int) := by omega
        go_enter Tryz.func181, Tryz.ntmps181
        go_wp2
        go_ret
        exact ⟨rfl, by with_reducible repeat (first | exact Below.refl _ _ | apply ba | apply bp | apply bd | apply bn)⟩
  · by_cases h3 : n = 0
    · subst h3
      rw [show lenOk 2 0 = true by simp [lenOk]]
      go_enter Tryz.func181, Tryz.ntmps181
      go_wp2
      go_ret
      exact ⟨rfl, by with_reducible repeat (first | exact Below.refl _ _ | apply ba | apply bp | apply bd | apply bn)⟩
    · by_cases h4 : 3 ≤ n
      · rw [show lenOk 2 n = true by simp [lenOk, h4]]
        have i3 : ¬ (n : Int) = 0 := by omega
        have d3 : ((n : Int) == 0) = false := by simp [h3]
        have i4 : (3 : Int) ≤ (n : Int) := by omega
        go_enter Tryz.func181, Tryz.ntmps181
        go_wp2
        go_ret
        exact ⟨rfl, by with_reducible repeat (first | exact Below.refl _ _ | apply ba | apply bp | apply bd | apply bn)⟩
      · rw [show lenOk 2 n = false by simp [lenOk, h3, h4]]
        have i3 : ¬ (n : Int) = 0 := by omega
        have d3 : ((n : Int) == 0) = false := by simp [h3]
        have i4 : ¬ (3 : Int) ≤ (n : Int) := by omega
        go_enter Tryz.func181, Tryz.ntmps181
        go_wp2
        go_ret
        exact ⟨rfl, by with_reducible repeat (first | exact Below.refl _ _ | apply ba | apply bp | apply bd | apply bn)⟩

theorem triangles_calls (kind : Int) (ao : Option Addr) (n cap : Nat) (ix : List Int) (w : World) (hl : Lay fI w ao n ix) (hn : n ≤ 10000) :
    Calls Tryz.prog 182 #[.agg #[.int .u8 kind, .slice ao n cap]] w fun e w' => RetL fV w (prTris ⟨kind, ix⟩) e w' := by
  have hlen := hl.len
  by_cases h1 : kind = 1
  · subst h1
    go_enter Tryz.func182, Tryz.ntmps182
    go_wp2_with (first | (go_at_call 191; refine (stripOf_calls _ _ _ _ _ (hl.ex skM) hn).mono ?_; rintro e w' ⟨ao1, cap1, rfl, ⟨yao1, rfl⟩, hl1⟩) | (go_at_call 192; refine (fanOf_calls _ _ _ _ _ (hl.ex skM) hn).mono ?_; rintro e w' ⟨ao1, cap1, rfl, ⟨yao1, rfl⟩, hl1⟩) | (go_at_call 193; refine (threesOf_calls _ _ _ _ _ (hl.ex skM) hn).mono ?_; rintro e w' ⟨ao1, cap1, rfl, ⟨yao1, rfl⟩, hl1⟩))
    go_ret
    exact ⟨_, _, _, rfl, skM, by rw [show prTris ⟨1, ix⟩ = firsts (stripT ix) (n - 2) by rw [← hlen]; rfl]; exact hl1.lay⟩
  · by_cases h2 : kind = 2
    · subst h2
      go_enter Tryz.func182, Tryz.ntmps182
      go_wp2_with (first | (go_at_call 191; refine (stripOf_calls _ _ _ _ _ (hl.ex skM) hn).mono ?_; rintro e w' ⟨ao1, cap1, rfl, ⟨yao1, rfl⟩, hl1⟩) | (go_at_call 192; refine (fanOf_calls _ _ _ _ _ (hl.ex skM) hn).mono ?_; rintro e w' ⟨ao1, cap1, rfl, ⟨yao1, rfl⟩, hl1⟩) | (go_at_call 193; refine (threesOf_calls _ _ _ _ _ (hl.ex skM) hn).mono ?_; rintro e w' ⟨ao1, cap1, rfl, ⟨yao1, rfl⟩, hl1⟩))
      go_ret
      exact ⟨_, _, _, rfl, skM, by rw [show prTris ⟨2, ix⟩ = firsts (fanT ix) (n - 2) by rw [← hlen]; rfl]; exact hl1.lay⟩
    go_enter Tryz.func182, Tryz.ntmps182
    go_wp2_with (first | (go_at_call 191; refine (stripOf_calls _ _ _ _ _ (hl.ex skM) hn).mono ?_; rintro e w' ⟨ao1, cap1, rfl, ⟨yao1, rfl⟩, hl1⟩) | (go_at_call 192; refine (fanOf_calls _ _ _ _ _ (hl.ex skM) hn).mono ?_; rintro e w' ⟨ao1, cap1, rfl, ⟨yao1, rfl⟩, hl1⟩) | (go_at_call 193; refine (threesOf_calls _ _ _ _ _ (hl.ex skM) hn).mono ?_; rintro e w' ⟨ao1, cap1, rfl, ⟨yao1, rfl⟩, hl1⟩))
    go_ret
    exact ⟨_, _, _, rfl, skM, by rw [show prTris ⟨kind, ix⟩ = firsts (threeT ix) (n / 3) by rw [← hlen]; exact (if_neg h1).trans (if_neg h2)]; exact hl1.lay⟩

theorem mprim_calls (kind : Int) (ao : Option Addr) (n cap : Nat) (ix : List Int) (w : World) (h0 : 0 ≤ kind) (hl : Lay fI w ao n ix) (hn : n ≤ 9223372036854775807) :
    Calls Tryz.prog 173 #[.agg #[.int .u8 kind, .slice ao n cap]] w fun e w' => RetT fV w (prList ⟨kind, ix⟩) (.int .i64 (prErr ⟨kind, ix⟩)) e w' := by
  have hlen := hl.len
  by_cases h1 : 2 < kind
  · have he := prErr_kind (ix := ix) h1
    rw [he]
    go_enter Tryz.func173, Tryz.ntmps173
    go_wp2_with (first | (go_at_call 181; refine (plus_post (lengthMay_calls _ _ _ h0 (by omega) (by omega))).mono ?_; rintro e w' ⟨rfl, nx, rfl⟩) | (go_at_call 182; refine (triangles_calls _ _ _ _ _ _ (hl.ex skM) (by omega)).mono ?_; rintro e w' ⟨ao1, m1, cap1, rfl, ⟨yao1, rfl⟩, hl1⟩))
    exact bodyPost_ret (v := .tuple #[.slice none 0 0, .int .i64 2]) (by simp [results, Tryz.results173, go_sem]) rfl ⟨_, _, _, rfl, skM, by rw [prList_bad (by rw [he]; decide)]; exact Lay.nil⟩
  by_cases h2 : 200 < n
  · have he := prErr_many (ix := ix) h1 (by omega)
    rw [he]
    have i2 : (200 : Int) < (n : Int) := by omega
    go_enter Tryz.func173, Tryz.ntmps173
    go_wp2_with (first | (go_at_call 181; refine (plus_post (lengthMay_calls _ _ _ h0 (by omega) (by omega))).mono ?_; rintro e w' ⟨rfl, nx, rfl⟩) | (go_at_call 182; refine (triangles_calls _ _ _ _ _ _ (hl.ex skM) (by omega)).mono ?_; rintro e w' ⟨ao1, m1, cap1, rfl, ⟨yao1, rfl⟩, hl1⟩))
    exact bodyPost_ret (v := .tuple #[.slice none 0 0, .int .i64 4]) (by simp [results, Tryz.results173, go_sem]) rfl ⟨_, _, _, rfl, skM, by rw [prList_bad (by rw [he]; decide)]; exact Lay.nil⟩
  have i2 : ¬ (200 : Int) < (n : Int) := by omega
  cases h3 : lenOk kind n
  · have he := prErr_bad (ix := ix) h1 (by omega) (by rw [hlen]; exact h3)
    rw [he]
    go_enter Tryz.func173, Tryz.ntmps173
    go_wp2_with (first | (go_at_call 181; refine (plus_post (lengthMay_calls _ _ _ h0 (by omega) (by omega))).mono ?_; rintro e w' ⟨rfl, nx, rfl⟩) | (go_at_call 182; refine (triangles_calls _ _ _ _ _ _ (hl.ex skM) (by omega)).mono ?_; rintro e w' ⟨ao1, m1, cap1, rfl, ⟨yao1, rfl⟩, hl1⟩))
    exact bodyPost_ret (v := .tuple #[.slice none 0 0, .int .i64 40]) (by simp [results, Tryz.results173, go_sem]) rfl ⟨_, _, _, rfl, skM, by rw [prList_bad (by rw [he]; decide)]; exact Lay.nil⟩
  · have he := prErr_good (ix := ix) h1 (by omega) (by rw [hlen]; exact h3)
    rw [he]
    go_enter Tryz.func173, Tryz.ntmps173
    go_wp2_with (first | (go_at_call 181; refine (plus_post (lengthMay_calls _ _ _ h0 (by omega) (by omega))).mono ?_; rintro e w' ⟨rfl, nx, rfl⟩) | (go_at_call 182; refine (triangles_calls _ _ _ _ _ _ (hl.ex skM) (by omega)).mono ?_; rintro e w' ⟨ao1, m1, cap1, rfl, ⟨yao1, rfl⟩, hl1⟩))
    exact bodyPost_ret (v := .tuple #[.slice ao1 m1 cap1, .int .i64 0]) (by simp [results, Tryz.results173, go_sem]) rfl ⟨_, _, _, rfl, skM, by rw [prList_good he]; exact hl1⟩

end

section


open Go.RowKit Go.ChangeShapes Go.WideShapes Go.ChangeAt

set_option linter.unusedSimpArgs false

set_option linter.unusedVariables false

attribute [local go_sem] plus_size plus_drew dn_set dn_alloc dn_plus plus_dn cell_plus frozen_plus set_plus cell_alloc frozen_alloc set_alloc

attribute [local go_sem] eqarr_40 nearr_40 larr_40

attribute [local go_sem] eqarr_137 nearr_137 larr_137

attribute [local go_sem] isnil_47

attribute [local go_sem] isnil_57

attribute [local go_sem] isnil_58

attribute [local go_sem] isnil_59

end

section


open Go.RowKit

def vOk (v : V3) : Bool := [v.x, v.y, v.z].all (inR (-1024) 1024)

def uOk (p : Int × Int) : Bool := [p.1, p.2].all (inR 0 255)

def pOk (nv : Nat) (p : Pr) : Bool := decide (prErr p = 0) && p.ix.all (inR 0 ((nv : Int) - 1))

/-- the triangles of the first k primitives -/
def tris (ps : List Pr) (k : Nat) : List V3 := (ps.take k).flatMap prTris

def trisN (ps : List Pr) (k : Nat) : Nat := (tris ps k).length

def psOk (nv : Nat) (ps : List Pr) : Bool := ps.all (pOk nv) && decide (trisN ps ps.length ≤ 64)

def msOk (m : Ms) : Bool := m.vs.all vOk && m.uv.length == m.vs.length && m.uv.all uOk && psOk m.vs.length m.ps

def msMany (m : Ms) : Prop := 64 < m.vs.length ∨ 64 < m.uv.length ∨ 16 < m.ps.length

def msErr (m : Ms) : Int := if 64 < m.vs.length ∨ 64 < m.uv.length ∨ 16 < m.ps.length then 4 else if msOk m = true then 0 else 40

def msList (m : Ms) : List V3 := if msErr m = 0 then tris m.ps m.ps.length else []

theorem tris_succ {ps : List Pr} {k : Nat} (hk : k < ps.length) : tris ps (k + 1) = tris ps k ++ prTris (nth dPr ps k) := by
  unfold tris
  rw [take_nth (d := dPr) hk, List.flatMap_append]
  simp

theorem trisN_succ {ps : List Pr} {k : Nat} (hk : k < ps.length) : trisN ps (k + 1) = trisN ps k + (prTris (nth dPr ps k)).length := by
  unfold trisN
  rw [tris_succ hk, List.length_append]

theorem prTris_200 {p : Pr} (h : prErr p = 0) : (prTris p).length ≤ 200 := by
  have h1 := prTris_le p
  unfold prErr at h
  split at h
  · cases h
  · split at h
    · cases h
    · omega

theorem ix_200 {p : Pr} (h : prErr p = 0) : p.ix.length ≤ 200 := by
  unfold prErr at h
  split at h
  · cases h
  · split at h
    · cases h
    · omega

theorem trisN_le {ps : List Pr} : ∀ {k : Nat}, k ≤ ps.length → (∀ j, j < k → prErr (nth dPr ps j) = 0) → trisN ps k ≤ 200 * k
  | 0, _, _ => by simp [trisN, tris]
  | k + 1, hk, h => by
    rw [trisN_succ (by omega)]
    have h1 := trisN_le (k := k) (by omega) (fun j hj => h j (by omega))
    have h2 := prTris_200 (h k (by omega))
    omega

theorem pOk_err {nv : Nat} {p : Pr} (h : pOk nv p = true) : prErr p = 0 := by
  simp only [pOk, Bool.and_eq_true, decide_eq_true_eq] at h
  exact h.1

theorem pOk_not1 {nv : Nat} {p : Pr} (h : prErr p ≠ 0) : pOk nv p = false := by simp [pOk, h]

theorem pOk_not2 {nv : Nat} {p : Pr} (h : p.ix.all (inR 0 ((nv : Int) - 1)) = false) : pOk nv p = false := by rw [pOk, h, Bool.and_false]

theorem pOk_yes {nv : Nat} {p : Pr} (h : prErr p = 0) (h2 : p.ix.all (inR 0 ((nv : Int) - 1)) = true) : pOk nv p = true := by rw [pOk, h2, Bool.and_true, decide_eq_true_eq]; exact h

theorem ps_errs {nv : Nat} {ps : List Pr} {k : Nat} (h : ∀ j, j < k → pOk nv (nth dPr ps j) = true) : ∀ j, j < k → prErr (nth dPr ps j) = 0 := fun j hj => pOk_err (h j hj)

end

section


open Go.RowKit Go.ChangeShapes Go.WideShapes Go.ChangeAt

set_option linter.unusedSimpArgs false

set_option linter.unusedVariables false

attribute [local go_sem] plus_size plus_drew dn_set dn_alloc dn_plus plus_dn cell_plus frozen_plus set_plus cell_alloc frozen_alloc set_alloc

attribute [local go_sem] eqarr_40 nearr_40 larr_40

attribute [local go_sem] eqarr_137 nearr_137 larr_137

attribute [local go_sem] isnil_47

attribute [local go_sem] isnil_57

attribute [local go_sem] isnil_58

attribute [local go_sem] isnil_59

def allOk (nv : Nat) (ps : List Pr) : Bool := ps.all (pOk nv)

def allListM (nv : Nat) (ps : List Pr) : List V3 := if allOk nv ps = true then tris ps ps.length else []

end

section


open Go.RowKit Go.ChangeShapes Go.WideShapes Go.ChangeAt

set_option linter.unusedSimpArgs false

set_option linter.unusedVariables false

attribute [local go_sem] plus_size plus_drew dn_set dn_alloc dn_plus plus_dn cell_plus frozen_plus set_plus cell_alloc frozen_alloc set_alloc

attribute [local go_sem] eqarr_40 nearr_40 larr_40

attribute [local go_sem] eqarr_137 nearr_137 larr_137

attribute [local go_sem] isnil_47

attribute [local go_sem] isnil_57

attribute [local go_sem] isnil_58

attribute [local go_sem] isnil_59

end

section


open Go.RowKit Go.ChangeShapes Go.WideShapes Go.ChangeAt

set_option linter.unusedSimpArgs false

set_option linter.unusedVariables false

attribute [local go_sem] plus_size plus_drew dn_set dn_alloc dn_plus plus_dn cell_plus frozen_plus set_plus cell_alloc frozen_alloc set_alloc

def fB (b : Bool) : List Value := [.bool b]

theorem name_world {α : Type} {F : α → World → Prop} {a : α} {w : World} (p : World → Prop) (hp : p w) (h : ∀ w', p w' → F a w') : F a w := h w hp

/-- all children are nodes -/
def Kin6 (g : Gr) : Prop := ∀ i, i < g.ks.length → ∀ x, x ∈ nth [] g.ks i → 0 ≤ x.1 ∧ x.1.toNat < g.ks.length

end

section


open Go.RowKit Go.ChangeShapes Go.WideShapes Go.ChangeAt

set_option linter.unusedSimpArgs false

set_option linter.unusedVariables false

attribute [local go_sem] plus_size plus_drew dn_set dn_alloc dn_plus plus_dn cell_plus frozen_plus set_plus cell_alloc frozen_alloc set_alloc

def allTo (o : List Bool) (cs : List Nat) (k : Nat) : Bool := (cs.take k).all fun c => nth false o c

end

section


open Go.RowKit Go.ChangeShapes Go.WideShapes Go.ChangeAt

set_option linter.unusedSimpArgs false

set_option linter.unusedVariables false

attribute [local go_sem] plus_size plus_drew dn_set dn_alloc dn_plus plus_dn cell_plus frozen_plus set_plus cell_alloc frozen_alloc set_alloc

theorem rows_no {g : Gr} {i : Nat} (hi : i < g.ks.length) (h : rowOk g.sl i (nth [] g.ks i) = false) : rowsOk g = false := by
  cases hv : rowsOk g with
  | false => rfl
  | true =>
    have := List.all_eq_true.1 hv i (List.mem_range.2 hi)
    rw [h] at this
    cases this

theorem rows_yes {g : Gr} (h : ∀ i, i < g.ks.length → rowOk g.sl i (nth [] g.ks i) = true) : rowsOk g = true := List.all_eq_true.2 fun i hi => h i (List.mem_range.1 hi)

end

section


open Go.RowKit Go.ChangeShapes Go.WideShapes Go.ChangeAt

set_option linter.unusedSimpArgs false

set_option linter.unusedVariables false

attribute [local go_sem] plus_size plus_drew dn_set dn_alloc dn_plus plus_dn cell_plus frozen_plus set_plus cell_alloc frozen_alloc set_alloc

/-- many cells read at once, kept as one word for the walk -/
def ldN (a : Addr) (n : Nat) : Sem (Array Value) := loadCellsFrom a 0 n #[]

theorem nf0_B : NfB nf0 := ⟨⟨by decide, by decide⟩, ⟨by decide, by decide⟩, ⟨⟨by decide, by decide⟩, ⟨by decide, by decide⟩, ⟨by decide, by decide⟩, ⟨by decide, by decide⟩, ⟨by decide, by decide⟩, ⟨⟨by decide, by decide⟩, ⟨by decide, by decide⟩, ⟨by decide, by decide⟩, ⟨by decide, by decide⟩, ⟨by decide, by decide⟩⟩⟩⟩

theorem nd0_at (w : World) : NodeAt w nh0 nd0 := ⟨rfl, nf0_B, by decide, by decide, fun _ => ⟨rfl, rfl⟩, Lay.nil⟩

theorem build_node (w : World) : (Instr.build 56 #[]).run Tryz.prog w = .ok (.agg (List.toArray (.int .u8 0 :: .int .i64 0 :: .int .i64 0 :: .int .i64 0 :: .int .i64 0 :: .int .i64 0 :: .int .i64 0 :: .int .i64 0 :: .int .i64 0 :: .int .i64 0 :: .int .i64 0 :: .int .i64 0 :: .int .i64 0 :: .int .u16 0 :: .int .i64 0 :: .int .i64 0 :: .int .i64 0 :: .slice none 0 0 :: .int .i64 0 :: .int .u8 0 :: .int .u8 0 :: .int .u8 0 :: .int .u8 0 :: .int .u8 0 :: .int .u8 0 :: .int .u8 0 :: .int .u8 0 :: .int .u8 0 :: .int .i64 0 :: .int .u8 0 :: .int .i64 0 :: .bool false :: .int .i64 0 :: []))) w := run_build w 56 #[] _ (by kernel_rfl)

/-- may the meshes and textures be? -/
def mayTp (t : Tp) : Bool := mayT t.w t.h t.l.length

def edMsOk (m : Ms) : Bool := decide (msErr m = 0)

def storesOk (s : Sc) : Bool := s.ms.all edMsOk && (s.ts.all mayTp && (decide (s.ms.length ≤ 32) && decide (s.ts.length ≤ 16)))

theorem texMay {w : World} {h : TH} {t : Tp} (a : TexAt w h t) : mayT h.w h.h h.n = mayTp t := by rw [mayTp, a.we, a.he, a.tx.lay.len]

end

section


open Go.RowKit Go.ChangeShapes Go.WideShapes Go.ChangeAt

set_option linter.unusedSimpArgs false

set_option linter.unusedVariables false

attribute [local go_sem] plus_size plus_drew dn_set dn_alloc dn_plus plus_dn cell_plus frozen_plus set_plus cell_alloc frozen_alloc set_alloc

set_option maxRecDepth 100000 in
set_option maxHeartbeats 4000000 in
theorem lsameNd_calls (ak am0 am1 am2 am3 am4 am5 am6 am7 am8 am9 am10 am11 ao ac0 ac1 ac2 ae as0 as1 as2 as3 as4 as5 as6 as7 as8 as9 as10 as11 as13 : Int) (as12 : Bool) (aa : Option Addr) (an ax : Nat) (af : List Int) (bk bm0 bm1 bm2 bm3 bm4 bm5 bm6 bm7 bm8 bm9 bm10 bm11 bo bc0 bc1 bc2 be bs0 bs1 bs2 bs3 bs4 bs5 bs6 bs7 bs8 bs9 bs10 bs11 bs13 : Int) (bs12 : Bool) (ba : Option Addr) (bn bx : Nat) (bf : List Int) (w : World) (hl : Lay fI w aa an af) (hl2 : Lay fI w ba bn bf) (hn : an ≤ 10000) (hn2 : bn ≤ 10000) :
    Calls Tryz.prog 48 #[.agg (List.toArray (.int .u8 ak :: .int .i64 am0 :: .int .i64 am1 :: .int .i64 am2 :: .int .i64 am3 :: .int .i64 am4 :: .int .i64 am5 :: .int .i64 am6 :: .int .i64 am7 :: .int .i64 am8 :: .int .i64 am9 :: .int .i64 am10 :: .int .i64 am11 :: .int .u16 ao :: .int .i64 ac0 :: .int .i64 ac1 :: .int .i64 ac2 :: .slice aa an ax :: .int .i64 ae :: .int .u8 as0 :: .int .u8 as1 :: .int .u8 as2 :: .int .u8 as3 :: .int .u8 as4 :: .int .u8 as5 :: .int .u8 as6 :: .int .u8 as7 :: .int .u8 as8 :: .int .i64 as9 :: .int .u8 as10 :: .int .i64 as11 :: .bool as12 :: .int .i64 as13 :: [])), .agg (List.toArray (.int .u8 bk :: .int .i64 bm0 :: .int .i64 bm1 :: .int .i64 bm2 :: .int .i64 bm3 :: .int .i64 bm4 :: .int .i64 bm5 :: .int .i64 bm6 :: .int .i64 bm7 :: .int .i64 bm8 :: .int .i64 bm9 :: .int .i64 bm10 :: .int .i64 bm11 :: .int .u16 bo :: .int .i64 bc0 :: .int .i64 bc1 :: .int .i64 bc2 :: .slice ba bn bx :: .int .i64 be :: .int .u8 bs0 :: .int .u8 bs1 :: .int .u8 bs2 :: .int .u8 bs3 :: .int .u8 bs4 :: .int .u8 bs5 :: .int .u8 bs6 :: .int .u8 bs7 :: .int .u8 bs8 :: .int .i64 bs9 :: .int .u8 bs10 :: .int .i64 bs11 :: .bool bs12 :: .int .i64 bs13 :: []))] w fun e w' => e = .returned (.bool (sameNd ⟨⟨ak, ⟨⟨⟨am0, am1, am2⟩, ⟨am3, am4, am5⟩, ⟨am6, am7, am8⟩⟩, ⟨am9, am10, am11⟩⟩, ao, ⟨ac0, ac1, ac2⟩, ae, ⟨as0, as1, as2, as3, as4, ⟨as5, as6, as7, as8, as9, as10, as11, as12, as13⟩⟩⟩, af⟩ ⟨⟨bk, ⟨⟨⟨bm0, bm1, bm2⟩, ⟨bm3, bm4, bm5⟩, ⟨bm6, bm7, bm8⟩⟩, ⟨bm9, bm10, bm11⟩⟩, bo, ⟨bc0, bc1, bc2⟩, be, ⟨bs0, bs1, bs2, bs3, bs4, ⟨bs5, bs6, bs7, bs8, bs9, bs10, bs11, bs12, bs13⟩⟩⟩, bf⟩)) ∧ ∃ y, w' = plus w y := by
  by_cases hk : ak = bk
  rotate_left
  · rw [show sameNd ⟨⟨ak, ⟨⟨⟨am0, am1, am2⟩, ⟨am3, am4, am5⟩, ⟨am6, am7, am8⟩⟩, ⟨am9, am10, am11⟩⟩, ao, ⟨ac0, ac1, ac2⟩, ae, ⟨as0, as1, as2, as3, as4, ⟨as5, as6, as7, as8, as9, as10, as11, as12, as13⟩⟩⟩, af⟩ ⟨⟨bk, ⟨⟨⟨bm0, bm1, bm2⟩, ⟨bm3, bm4, bm5⟩, ⟨bm6, bm7, bm8⟩⟩, ⟨bm9, bm10, bm11⟩⟩, bo, ⟨bc0, bc1, bc2⟩, be, ⟨bs0, bs1, bs2, bs3, bs4, ⟨bs5, bs6, bs7, bs8, bs9, bs10, bs11, bs12, bs13⟩⟩⟩, bf⟩ = false by simp [sameNd, hk]]
    have dk : (ak == bk) = false := by rw [beq_eq_false_iff_ne]; exact hk
    go_enter Tryz.func48, Tryz.ntmps48
    go_wp2_with (go_at_call 93; refine (plus_post (equalI_calls _ _ _ _ _ _ af bf _ (hl.ex sk9) (hl2.ex sk9) hn hn2)).mono ?_; rintro e w' ⟨rfl, nx, rfl⟩)
    exact bodyPost_ret (v := .bool false) (by simp [results, Tryz.results48, go_sem]) rfl ⟨rfl, sk9⟩
  subst hk
  cases hm : eqmt ⟨⟨⟨am0, am1, am2⟩, ⟨am3, am4, am5⟩, ⟨am6, am7, am8⟩⟩, ⟨am9, am10, am11⟩⟩ ⟨⟨⟨bm0, bm1, bm2⟩, ⟨bm3, bm4, bm5⟩, ⟨bm6, bm7, bm8⟩⟩, ⟨bm9, bm10, bm11⟩⟩
  · rw [show sameNd ⟨⟨ak, ⟨⟨⟨am0, am1, am2⟩, ⟨am3, am4, am5⟩, ⟨am6, am7, am8⟩⟩, ⟨am9, am10, am11⟩⟩, ao, ⟨ac0, ac1, ac2⟩, ae, ⟨as0, as1, as2, as3, as4, ⟨as5, as6, as7, as8, as9, as10, as11, as12, as13⟩⟩⟩, af⟩ ⟨⟨ak, ⟨⟨⟨bm0, bm1, bm2⟩, ⟨bm3, bm4, bm5⟩, ⟨bm6, bm7, bm8⟩⟩, ⟨bm9, bm10, bm11⟩⟩, bo, ⟨bc0, bc1, bc2⟩, be, ⟨bs0, bs1, bs2, bs3, bs4, ⟨bs5, bs6, bs7, bs8, bs9, bs10, bs11, bs12, bs13⟩⟩⟩, bf⟩ = false by simp [sameNd, hm]]
    have qM := eqM_is hm
    go_enter Tryz.func48, Tryz.ntmps48
    go_wp2_with (go_at_call 93; refine (plus_post (equalI_calls _ _ _ _ _ _ af bf _ (hl.ex sk9) (hl2.ex sk9) hn hn2)).mono ?_; rintro e w' ⟨rfl, nx, rfl⟩)
    exact bodyPost_ret (v := .bool false) (by simp [results, Tryz.results48, go_sem]) rfl ⟨rfl, sk9⟩
  have qM := eqM_is hm
  by_cases ho : ao = bo
  rotate_left
  · rw [show sameNd ⟨⟨ak, ⟨⟨⟨am0, am1, am2⟩, ⟨am3, am4, am5⟩, ⟨am6, am7, am8⟩⟩, ⟨am9, am10, am11⟩⟩, ao, ⟨ac0, ac1, ac2⟩, ae, ⟨as0, as1, as2, as3, as4, ⟨as5, as6, as7, as8, as9, as10, as11, as12, as13⟩⟩⟩, af⟩ ⟨⟨ak, ⟨⟨⟨bm0, bm1, bm2⟩, ⟨bm3, bm4, bm5⟩, ⟨bm6, bm7, bm8⟩⟩, ⟨bm9, bm10, bm11⟩⟩, bo, ⟨bc0, bc1, bc2⟩, be, ⟨bs0, bs1, bs2, bs3, bs4, ⟨bs5, bs6, bs7, bs8, bs9, bs10, bs11, bs12, bs13⟩⟩⟩, bf⟩ = false by simp [sameNd, ho]]
    have dk : (ao == bo) = false := by rw [beq_eq_false_iff_ne]; exact ho
    go_enter Tryz.func48, Tryz.ntmps48
    go_wp2_with (go_at_call 93; refine (plus_post (equalI_calls _ _ _ _ _ _ af bf _ (hl.ex sk9) (hl2.ex sk9) hn hn2)).mono ?_; rintro e w' ⟨rfl, nx, rfl⟩)
    exact bodyPost_ret (v := .bool false) (by simp [results, Tryz.results48, go_sem]) rfl ⟨rfl, sk9⟩
  subst ho
  cases hc : eqv ⟨ac0, ac1, ac2⟩ ⟨bc0, bc1, bc2⟩
  · rw [show sameNd ⟨⟨ak, ⟨⟨⟨am0, am1, am2⟩, ⟨am3, am4, am5⟩, ⟨am6, am7, am8⟩⟩, ⟨am9, am10, am11⟩⟩, ao, ⟨ac0, ac1, ac2⟩, ae, ⟨as0, as1, as2, as3, as4, ⟨as5, as6, as7, as8, as9, as10, as11, as12, as13⟩⟩⟩, af⟩ ⟨⟨ak, ⟨⟨⟨bm0, bm1, bm2⟩, ⟨bm3, bm4, bm5⟩, ⟨bm6, bm7, bm8⟩⟩, ⟨bm9, bm10, bm11⟩⟩, ao, ⟨bc0, bc1, bc2⟩, be, ⟨bs0, bs1, bs2, bs3, bs4, ⟨bs5, bs6, bs7, bs8, bs9, bs10, bs11, bs12, bs13⟩⟩⟩, bf⟩ = false by simp [sameNd, hc]]
    have qV := eqV_is hc
    go_enter Tryz.func48, Tryz.ntmps48
    go_wp2_with (go_at_call 93; refine (plus_post (equalI_calls _ _ _ _ _ _ af bf _ (hl.ex sk9) (hl2.ex sk9) hn hn2)).mono ?_; rintro e w' ⟨rfl, nx, rfl⟩)
    exact bodyPost_ret (v := .bool false) (by simp [results, Tryz.results48, go_sem]) rfl ⟨rfl, sk9⟩
  have qV := eqV_is hc
  cases hf : sameI af bf
  · rw [show sameNd ⟨⟨ak, ⟨⟨⟨am0, am1, am2⟩, ⟨am3, am4, am5⟩, ⟨am6, am7, am8⟩⟩, ⟨am9, am10, am11⟩⟩, ao, ⟨ac0, ac1, ac2⟩, ae, ⟨as0, as1, as2, as3, as4, ⟨as5, as6, as7, as8, as9, as10, as11, as12, as13⟩⟩⟩, af⟩ ⟨⟨ak, ⟨⟨⟨bm0, bm1, bm2⟩, ⟨bm3, bm4, bm5⟩, ⟨bm6, bm7, bm8⟩⟩, ⟨bm9, bm10, bm11⟩⟩, ao, ⟨bc0, bc1, bc2⟩, be, ⟨bs0, bs1, bs2, bs3, bs4, ⟨bs5, bs6, bs7, bs8, bs9, bs10, bs11, bs12, bs13⟩⟩⟩, bf⟩ = false by simp [sameNd, hf]]
    go_enter Tryz.func48, Tryz.ntmps48
    go_wp2_with (go_at_call 93; refine (plus_post (equalI_calls _ _ _ _ _ _ af bf _ (hl.ex sk9) (hl2.ex sk9) hn hn2)).mono ?_; rintro e w' ⟨rfl, nx, rfl⟩)
    exact bodyPost_ret (v := .bool false) (by simp [results, Tryz.results48, go_sem]) rfl ⟨rfl, sk9⟩
  by_cases he : ae = be
  rotate_left
  · rw [show sameNd ⟨⟨ak, ⟨⟨⟨am0, am1, am2⟩, ⟨am3, am4, am5⟩, ⟨am6, am7, am8⟩⟩, ⟨am9, am10, am11⟩⟩, ao, ⟨ac0, ac1, ac2⟩, ae, ⟨as0, as1, as2, as3, as4, ⟨as5, as6, as7, as8, as9, as10, as11, as12, as13⟩⟩⟩, af⟩ ⟨⟨ak, ⟨⟨⟨bm0, bm1, bm2⟩, ⟨bm3, bm4, bm5⟩, ⟨bm6, bm7, bm8⟩⟩, ⟨bm9, bm10, bm11⟩⟩, ao, ⟨bc0, bc1, bc2⟩, be, ⟨bs0, bs1, bs2, bs3, bs4, ⟨bs5, bs6, bs7, bs8, bs9, bs10, bs11, bs12, bs13⟩⟩⟩, bf⟩ = false by simp [sameNd, he]]
    have dk : (ae == be) = false := by rw [beq_eq_false_iff_ne]; exact he
    go_enter Tryz.func48, Tryz.ntmps48
    go_wp2_with (go_at_call 93; refine (plus_post (equalI_calls _ _ _ _ _ _ af bf _ (hl.ex sk9) (hl2.ex sk9) hn hn2)).mono ?_; rintro e w' ⟨rfl, nx, rfl⟩)
    exact bodyPost_ret (v := .bool false) (by simp [results, Tryz.results48, go_sem]) rfl ⟨rfl, sk9⟩
  subst he
  cases hs : eqsy ⟨as0, as1, as2, as3, as4, ⟨as5, as6, as7, as8, as9, as10, as11, as12, as13⟩⟩ ⟨bs0, bs1, bs2, bs3, bs4, ⟨bs5, bs6, bs7, bs8, bs9, bs10, bs11, bs12, bs13⟩⟩
  · rw [show sameNd ⟨⟨ak, ⟨⟨⟨am0, am1, am2⟩, ⟨am3, am4, am5⟩, ⟨am6, am7, am8⟩⟩, ⟨am9, am10, am11⟩⟩, ao, ⟨ac0, ac1, ac2⟩, ae, ⟨as0, as1, as2, as3, as4, ⟨as5, as6, as7, as8, as9, as10, as11, as12, as13⟩⟩⟩, af⟩ ⟨⟨ak, ⟨⟨⟨bm0, bm1, bm2⟩, ⟨bm3, bm4, bm5⟩, ⟨bm6, bm7, bm8⟩⟩, ⟨bm9, bm10, bm11⟩⟩, ao, ⟨bc0, bc1, bc2⟩, ae, ⟨bs0, bs1, bs2, bs3, bs4, ⟨bs5, bs6, bs7, bs8, bs9, bs10, bs11, bs12, bs13⟩⟩⟩, bf⟩ = false by simp [sameNd, hs]]
    have qS := eqSy_is hs
    go_enter Tryz.func48, Tryz.ntmps48
    go_wp2_with (go_at_call 93; refine (plus_post (equalI_calls _ _ _ _ _ _ af bf _ (hl.ex sk9) (hl2.ex sk9) hn hn2)).mono ?_; rintro e w' ⟨rfl, nx, rfl⟩)
    exact bodyPost_ret (v := .bool false) (by simp [results, Tryz.results48, go_sem]) rfl ⟨rfl, sk9⟩
  have qS := eqSy_is hs
  rw [show sameNd ⟨⟨ak, ⟨⟨⟨am0, am1, am2⟩, ⟨am3, am4, am5⟩, ⟨am6, am7, am8⟩⟩, ⟨am9, am10, am11⟩⟩, ao, ⟨ac0, ac1, ac2⟩, ae, ⟨as0, as1, as2, as3, as4, ⟨as5, as6, as7, as8, as9, as10, as11, as12, as13⟩⟩⟩, af⟩ ⟨⟨ak, ⟨⟨⟨bm0, bm1, bm2⟩, ⟨bm3, bm4, bm5⟩, ⟨bm6, bm7, bm8⟩⟩, ⟨bm9, bm10, bm11⟩⟩, ao, ⟨bc0, bc1, bc2⟩, ae, ⟨bs0, bs1, bs2, bs3, bs4, ⟨bs5, bs6, bs7, bs8, bs9, bs10, bs11, bs12, bs13⟩⟩⟩, bf⟩ = true by simp [sameNd, hm, hc, hf, hs]]
  go_enter Tryz.func48, Tryz.ntmps48
  go_wp2_with (go_at_call 93; refine (plus_post (equalI_calls _ _ _ _ _ _ af bf _ (hl.ex sk9) (hl2.ex sk9) hn hn2)).mono ?_; rintro e w' ⟨rfl, nx, rfl⟩)
  exact bodyPost_ret (v := .bool true) (by simp [results, Tryz.results48, go_sem]) rfl ⟨rfl, sk9⟩

theorem lsameNd_at {h h2 : NH} {n n2 : Nd} {w : World} (hN : NodeAt w h n) (hN2 : NodeAt w h2 n2) (s1 : h.n ≤ 10000) (s2 : h2.n ≤ 10000) {b : Bool} (hb : sameNd n n2 = b) :
    Calls Tryz.prog 48 #[vN h, vN h2] w fun e w' => e = .returned (.bool b) ∧ ∃ y, w' = plus w y := by
  subst hb
  obtain ⟨⟨ak, ⟨⟨⟨am0, am1, am2⟩, ⟨am3, am4, am5⟩, ⟨am6, am7, am8⟩⟩, ⟨am9, am10, am11⟩⟩, ao, ⟨ac0, ac1, ac2⟩, ae, ⟨as0, as1, as2, as3, as4, ⟨as5, as6, as7, as8, as9, as10, as11, as12, as13⟩⟩⟩, aa, an, ax⟩ := h
  obtain ⟨⟨bk, ⟨⟨⟨bm0, bm1, bm2⟩, ⟨bm3, bm4, bm5⟩, ⟨bm6, bm7, bm8⟩⟩, ⟨bm9, bm10, bm11⟩⟩, bo, ⟨bc0, bc1, bc2⟩, be, ⟨bs0, bs1, bs2, bs3, bs4, ⟨bs5, bs6, bs7, bs8, bs9, bs10, bs11, bs12, bs13⟩⟩⟩, ba, bn, bx⟩ := h2
  obtain ⟨f, far⟩ := n
  obtain ⟨f2, far2⟩ := n2
  obtain rfl := hN.f
  obtain rfl := hN2.f
  exact lsameNd_calls _ _ _ _ _ _ _ _ _ _ _ _ _ _ _ _ _ _ _ _ _ _ _ _ _ _ _ _ _ _ _ _ _ _ _ far _ _ _ _ _ _ _ _ _ _ _ _ _ _ _ _ _ _ _ _ _ _ _ _ _ _ _ _ _ _ _ _ _ _ _ far2 w hN.lay hN2.lay s1 s2

end

section


open Go.RowKit

section

variable {P : Program}

theorem run_loadVar_part (w : World) (g off : Nat) (ty : TypeId) (cs : List Value) (d : TypeDesc) (hc : ∀ j v, cs[j]? = some v → w.cell? ⟨g, off + j, none⟩ = some v)
    (hu : P.underlying ty = some d) (hd : (match d with | .struct _ | .array _ _ => true | _ => false) = true) (hi : (P.info? ty).map (·.size) = some cs.length) :
    (loadVar ty ⟨g, off, none⟩).run P w = .ok (.agg cs.toArray) w := by
  have hl : (loadCells ⟨g, off, none⟩ cs.length).run P w = .ok cs.toArray w :=
    run_loadCells_list (P := P) w ⟨g, off, none⟩ cs (fun j v hv => by rw [add_none]; exact hc j v hv)
  cases hq : P.info? ty with
  | none => simp [hq] at hi
  | some i =>
    have hs : i.size = cs.length := by simpa [hq] using hi
    have hagg : (isAgg ty).run P w = .ok true w := by
      unfold isAgg
      rw [Sem.run_bind, run_underlying hu w]
      cases d <;> simp_all
    simp [loadVar, Sem.run_bind, hagg, sizeOf, typeInfo, hq, hs, hl]

variable {ops : Array Oper} {rest : List Oper} {o : Oper} {a : Act} {w : World}

theorem exec_load_part (ty : TypeId) (x : Operand) (ho : o.op = .load ty x) (g off : Nat) (hx : a.eval x = .pointer (some ⟨g, off, none⟩)) (cs : List Value) (d : TypeDesc) (hc : ∀ j v, cs[j]? = some v → w.cell? ⟨g, off + j, none⟩ = some v)
    (hu : P.underlying ty = some d) (hd : (match d with | .struct _ | .array _ _ => true | _ => false) = true) (hi : (P.info? ty).map (·.size) = some cs.length) :
    (execOp a.eval o).run P w = .ok (.value (.agg cs.toArray)) w := by
  unfold execOp
  simp only [ho, hx, Instr.loadAt, Instr.sureAddr, Sem.run_bind, Sem.run_pure, Result.andThen_ok, run_loadVar_part w g off ty cs d hc hu hd hi]

theorem wpList_load_part {Q : Exit → Act → World → Prop} (hgd : o.guard = none) (ty : TypeId) (x : Operand) (ho : o.op = .load ty x) (g off : Nat) (hx : a.eval x = .pointer (some ⟨g, off, none⟩)) (cs : List Value) (d : TypeDesc) (hc : ∀ j v, cs[j]? = some v → w.cell? ⟨g, off + j, none⟩ = some v)
    (hu : P.underlying ty = some d) (hd : (match d with | .struct _ | .array _ _ => true | _ => false) = true) (hi : (P.info? ty).map (·.size) = some cs.length)
    (h : wpList P ops Q rest (a.put o.dst (.agg cs.toArray)) w) : wpList P ops Q (o :: rest) a w :=
  wpList_plain hgd fun _ hK => by
    unfold Oper.wp
    rw [exec_load_part ty x ho g off hx cs d hc hu hd hi]
    exact hK _ _ h

theorem wpQuiet_load_part {C : World → Prop} {Q : Act → Prop} (hw : Region.wanted o (yielded ops a.tmps) = true) (ty : TypeId) (x : Operand) (ho : o.op = .load ty x) (g off : Nat) (hx : a.eval x = .pointer (some ⟨g, off, none⟩)) (cs : List Value) (d : TypeDesc) (hc : ∀ w, C w → ∀ j v, cs[j]? = some v → w.cell? ⟨g, off + j, none⟩ = some v)
    (hu : P.underlying ty = some d) (hd : (match d with | .struct _ | .array _ _ => true | _ => false) = true) (hi : (P.info? ty).map (·.size) = some cs.length)
    (h : wpQuiet P ops C Q rest (a.put o.dst (.agg cs.toArray))) : wpQuiet P ops C Q (o :: rest) a :=
  BigFrame.wpQuiet_want hw fun _ hK => ⟨_, fun w hC => by
    unfold Oper.quietAt
    rw [exec_load_part ty x ho g off hx cs d (hc w hC) hu hd hi]
    exact ⟨rfl, rfl⟩, hK _ h⟩

end

end

section


open Go.RowKit

set_option linter.unusedVariables false

section

variable {P : Program}

/-- cells put into a block from a place on -/
def partOf (cur : Array Value) (i : Nat) (vs : List Value) : Array Value := (cur.toList.take i ++ (vs ++ cur.toList.drop (i + vs.length))).toArray

theorem partOf_size {cur : Array Value} {i : Nat} {vs : List Value} (h : i + vs.length ≤ cur.size) : (partOf cur i vs).size = cur.size := by
  unfold partOf
  simp only [List.size_toArray, List.length_append, List.length_take, List.length_drop, Array.length_toList]
  omega

theorem run_storeCells_part (g off : Nat) (t : TypeId) : ∀ (vs : List Value) (i : Nat) (cur : Array Value) (w : World), w.heap[g]? = some (.cells cur t (0, 0)) → off + i + vs.length ≤ cur.size → (∀ v ∈ vs, v.oneCell' = true) →
    (storeCells ⟨g, off, none⟩ vs i).run P w = .ok () (w.setRow g (partOf cur (off + i) vs))
  | [], i, cur, w, hg, hl, _ => by
    have : partOf cur (off + i) [] = cur := by
      unfold partOf
      simp
    have hlt : g < w.heap.size := (Array.getElem?_eq_some_iff.1 hg).1
    have hv : w.heap[g] = .cells cur t (0, 0) := (Array.getElem?_eq_some_iff.1 hg).2
    simp only [storeCells, this]
    show Result.ok () w = _
    congr 1
    unfold World.setRow
    cases w with
    | mk heap tape drawn os output =>
      congr 1
      apply Array.ext
      · simp
      · intro k h1 h2
        simp only [Array.getElem_modify]
        split
        · rename_i hk; subst hk; simp at hv; simp [hv]
        · rfl
  | v :: rest, i, cur, w, hg, hl, h1 => by
    have hi : off + i < cur.size := by simp at hl; omega
    have hadd : (⟨g, off, none⟩ : Addr).add i = ⟨g, off + i, none⟩ := by unfold Addr.add; split <;> simp_all
    have hcell : w.cell? ⟨g, off + i, none⟩ = some cur[off + i] := by simp [World.cell?, hg, hi]
    have hfro : w.frozen? ⟨g, off + i, none⟩ = false := by simp [World.frozen?, hg]
    have hst : (store ((⟨g, off, none⟩ : Addr).add i) v).run P w = .ok () (w.setRow g (cur.setIfInBounds (off + i) v)) := by
      rw [hadd, run_store P w _ v _ (h1 v (by simp)), hcell]
      simp [hfro, setCell_eq_setRow w g (off + i) cur t (0, 0) v hg]
    have ih := run_storeCells_part g off t rest (i + 1) (cur.setIfInBounds (off + i) v) (w.setRow g (cur.setIfInBounds (off + i) v)) (setRow_heap w g cur _ t _ hg) (by simp at hl ⊢; omega) (fun x hx => h1 x (by simp [hx]))
    simp only [storeCells, Sem.run_bind, hst, Result.andThen_ok, ih, setRow_setRow]
    congr 2
    unfold partOf
    congr 1
    apply List.ext_getElem?
    intro k
    simp only [Array.toList_setIfInBounds, List.getElem?_append, List.length_take, List.length_set, Array.length_toList, List.getElem?_take, List.getElem?_drop, List.getElem?_set, List.length_cons, List.getElem?_cons]
    rw [show min (off + (i + 1)) cur.size = off + i + 1 by omega, show min (off + i) cur.size = off + i by omega]
    by_cases hk : k < off + i
    · simp [hk, show k < off + (i + 1) by omega, show k < off + i + 1 by omega, show ¬ off + i = k by omega]
    · by_cases hk2 : k = off + i
      · subst hk2
        simp [hi, show off + i < off + (i + 1) by omega]
      · have e1 : ¬ k < off + i + 1 := by omega
        simp only [hk, e1, if_false]
        by_cases hk3 : k - (off + i + 1) < rest.length
        · simp [hk3, show k - (off + i) - 1 = k - (off + i + 1) by omega, show k - (off + i) < rest.length + 1 by omega, show ¬ k - (off + i) = 0 by omega]
        · simp [hk3, show ¬ k - (off + i) < rest.length + 1 by omega, show ¬ off + i = off + (i + 1) + rest.length + (k - (off + i + 1) - rest.length) by omega]
          congr 1
          omega

theorem run_storeVar_part (w : World) (g off : Nat) (t ty : TypeId) (cur : Array Value) (cs : List Value) (hg : w.heap[g]? = some (.cells cur t (0, 0))) (hi : (P.info? ty).map (·.size) = some cs.length)
    (ho : off + cs.length ≤ cur.size) (h1 : ∀ v ∈ cs, v.oneCell' = true) :
    (storeVar ty ⟨g, off, none⟩ (.agg cs.toArray)).run P w = .ok () (w.setRow g (partOf cur off cs)) := by
  have := run_storeCells_part (P := P) g off t cs 0 cur w hg (by omega) h1
  rw [Nat.add_zero] at this
  cases hq : P.info? ty with
  | none => simp [hq] at hi
  | some i =>
    have hs : cs.length = i.size := by simp [hq] at hi; omega
    simp [storeVar, sizeOf, typeInfo, hq, Value.cells, hs, this]

variable {ops : Array Oper} {rest : List Oper} {o : Oper} {a : Act} {w : World}

theorem wpList_store_part {Q : Exit → Act → World → Prop} (hgd : o.guard = none) (ty : TypeId) (x y : Operand) (ho : o.op = .store ty x y) (g off : Nat) (cs : List Value) (hx : a.eval x = .pointer (some ⟨g, off, none⟩)) (hy : a.eval y = .agg cs.toArray)
    (t : TypeId) (cur : Array Value) (hg : w.heap[g]? = some (.cells cur t (0, 0))) (hi : (P.info? ty).map (·.size) = some cs.length) (hn : off + cs.length ≤ cur.size) (h1 : ∀ v ∈ cs, v.oneCell' = true)
    (h : wpList P ops Q rest (a.put o.dst undef) (w.setRow g (partOf cur off cs))) : wpList P ops Q (o :: rest) a w :=
  wpList_plain hgd fun _ hK => by
    unfold Oper.wp execOp
    simp only [ho, hx, hy, Instr.storeAt, Instr.sureAddr, Sem.run_bind, Sem.run_pure, Result.andThen_ok, run_storeVar_part w g off t ty cur cs hg hi hn h1]
    exact hK _ _ h

/-- a struct read whole out of a list's cells, in a region that draws and only reads, guarded or not -/
theorem wpQuiet_load_guarded {C : World → Prop} {Q : Act → Prop} (ty : TypeId) (x : Operand) (ho : o.op = .load ty x) (g off : Nat) (hx : a.eval x = .pointer (some ⟨g, off, none⟩)) (cs : List Value) (d : TypeDesc) (hc : ∀ w, C w → ∀ j v, cs[j]? = some v → w.cell? ⟨g, off + j, none⟩ = some v)
    (hu : P.underlying ty = some d) (hd : (match d with | .struct _ | .array _ _ => true | _ => false) = true) (hi : (P.info? ty).map (·.size) = some cs.length) (hw : Region.wanted o (yielded ops a.tmps) = true)
    (h : wpQuiet P ops C Q rest (a.put o.dst (.agg cs.toArray))) : wpQuiet P ops C Q (o :: rest) a :=
  wpQuiet_load_part hw ty x ho g off hx cs d hc hu hd hi h

/-- a struct stored whole over a box of its own -/
theorem wpList_store_box {Q : Exit → Act → World → Prop} (hgd : o.guard = none) (ty : TypeId) (x y : Operand) (ho : o.op = .store ty x y) (g : Nat) (cs : List Value) (hx : a.eval x = .pointer (some ⟨g, 0, none⟩)) (hy : a.eval y = .agg cs.toArray)
    (t : TypeId) (cur : Array Value) (hg : w.heap[g]? = some (.cells cur t (0, 0))) (hi : (P.info? ty).map (·.size) = some cs.length) (hn : cur.size = cs.length) (h1 : ∀ v ∈ cs, v.oneCell' = true)
    (h : wpList P ops Q rest (a.put o.dst undef) (w.setRow g cs.toArray)) : wpList P ops Q (o :: rest) a w :=
  wpList_store_row hgd ty x y ho g cs.toArray hx hy t cur hg (by simpa using hi) (by simpa using hn) (Array.all_eq_true_iff_forall_mem.2 fun v hv => h1 v (by simpa using hv)) h

end

theorem blk_row_eq {w : World} {g : Nat} {c cs : Array Value} {t : TypeId} (h : w.heap[g]? = some (.cells c t)) : (w.setRow g cs).heap[g]? = some (.cells cs t) := setRow_heap w g c cs t _ h

theorem blk_row_ne {w : World} {g k : Nat} {cs : Array Value} (h : g ≠ k) : (w.setRow g cs).heap[k]? = w.heap[k]? := setRow_other w g k cs (Ne.symm h)

theorem ex_row_new {w T : World} {g : Nat} {cs : Array Value} (hw : ∃ y, w = plus T y) (hg : T.heap.size ≤ g) : ∃ y, w.setRow g cs = plus T y := by
  obtain ⟨y, rfl⟩ := hw
  apply below_plus
  have hb := plus_below T y
  refine ⟨hb.os, hb.tape, hb.output, by rw [setRow_size]; exact hb.size, fun n hn => ?_⟩
  rw [blk_row_ne (by omega)]
  exact hb.block n hn

section

variable {α : Type} {f : α → List Value} {w T : World} {ao : Option Addr} {n cap c g k : Nat} {l : List α} {e e' : TypeId} {cur cs : Array Value}

theorem Own.row_other (h : Own e c f T w ao n cap l) (hb : w.heap[g]? = some (.cells cur e')) (he : e' ≠ e) : Own e c f T (w.setRow g cs) ao n cap l := by
  refine ⟨h.1, h.2.1, h.2.2.imp id ?_⟩
  rintro ⟨k, cp, cu, h1, h2, h3, h4⟩
  refine ⟨k, cp, cu, h1, h2, ?_, h4⟩
  have hne : g ≠ k := by
    intro e2
    subst e2
    rw [hb] at h3
    cases h3
    exact he rfl
  rw [blk_row_ne hne]
  exact h3

/-- a block outside all that is owned -/
theorem Own.row_out (h : Own e c f T w ao n cap l) (hg : g < T.heap.size) : Own e c f T (w.setRow g cs) ao n cap l := by
  refine ⟨h.1, h.2.1, h.2.2.imp id ?_⟩
  rintro ⟨k, cp, cu, h1, h2, h3, h4⟩
  exact ⟨k, cp, cu, h1, h2, by rw [blk_row_ne (by omega)]; exact h3, h4⟩

theorem flat_len (hc : ∀ x, (f x).length = c) (l : List α) : (l.flatMap f).length = l.length * c := by
  induction l with
  | nil => simp
  | cons x l ih => rw [List.flatMap_cons, List.length_append, ih, hc, List.length_cons, Nat.succ_mul, Nat.add_comm]

theorem flat_set (hc : ∀ x, (f x).length = c) (l : List α) (x : α) : ∀ k, k < l.length → (l.set k x).flatMap f = (l.flatMap f).take (k * c) ++ (f x ++ (l.flatMap f).drop (k * c + c)) := by
  induction l with
  | nil => intro k hk; simp at hk
  | cons y l ih =>
    intro k hk
    cases k with
    | zero => simp [hc y]
    | succ k =>
      have hk' : k < l.length := by simpa using hk
      rw [List.set_cons_succ, List.flatMap_cons, ih k hk', List.flatMap_cons, Nat.succ_mul, List.take_append, hc, List.drop_append, hc, List.take_of_length_le (l := f y) (by rw [hc]; omega), show List.drop (k * c + c + c) (f y) = [] from List.drop_eq_nil_of_le (by rw [hc]; omega), List.append_assoc, List.nil_append,
        show k * c + c - c = k * c by omega, show k * c + c + c - c = k * c + c by omega]

theorem Own.set_row (h : Own e c f T w (some ⟨g, 0, none⟩) n cap l) (hb : w.heap[g]? = some (.cells cur e)) (hk : k < n) (hc : ∀ x, (f x).length = c) (x : α) :
    Own e c f T (w.setRow g (partOf cur (k * c) (f x))) (some ⟨g, 0, none⟩) n cap (l.set k x) ∧ k * c + (f x).length ≤ cur.size := by
  have hlen := h.1
  have hx := hc x
  rcases h.2.2 with ⟨h1, h0⟩ | ⟨g', cp, cu, h1, h2, h3, h4, h5, h6, h7⟩
  · omega
  · simp only [Value.slice.injEq, true_and, Option.some.injEq, Addr.mk.injEq, and_true] at h1
    obtain ⟨rfl, rfl⟩ := h1
    rw [hb] at h3
    cases h3
    have hkc : k * c + c ≤ n * c := by
      have := Nat.mul_le_mul_right c (show k + 1 ≤ n by omega)
      rw [Nat.succ_mul] at this
      exact this
    have hnc : n * c ≤ cur.size := by rw [h6]; exact Nat.mul_le_mul_right _ h4
    refine ⟨⟨by rw [List.length_set]; exact h.1, ?_, .inr ⟨g, cap, _, rfl, h2, blk_row_eq hb, h4, h5, ?_, ?_⟩⟩, by omega⟩
    · rw [flat_len hc, List.length_set, hlen]
    · rw [partOf_size (by omega)]; exact h6
    · rw [flat_set hc l x k (by omega), ← h7]
      unfold partOf
      rw [List.take_append, List.take_append, List.length_take, Array.length_toList, hx]
      have e1 : min (k * c) cur.size = k * c := by omega
      rw [e1, List.take_of_length_le (l := f x) (by rw [hx]; omega), List.take_of_length_le (l := List.take (k * c) cur.toList) (by rw [List.length_take]; omega), List.take_take, show min (k * c) (n * c) = k * c by omega]
      congr 2
      rw [List.take_drop]
      congr 2
      omega

end

end

section


open Go.RowKit Go.ChangeShapes Go.WideShapes Go.ChangeAt

set_option linter.unusedSimpArgs false

set_option linter.unusedVariables false

attribute [local go_sem] plus_size plus_drew dn_set dn_alloc dn_plus plus_dn cell_plus frozen_plus set_plus cell_alloc frozen_alloc set_alloc

theorem name_w {α : Type} {F : α → World → Prop} {a : α} {w : World} (p : World → Prop) (hp : p w) (h : ∀ w', p w' → F a w') : F a w := h w hp

theorem blk_new2 (w : World) (o : Obj) : (w.alloc o).heap[w.heap.size]? = some o := by rw [blk_alloc, if_pos rfl]

theorem blk_old {w : World} {o o' : Obj} {g : Nat} (h : w.heap[g]? = some o) : (w.alloc o').heap[g]? = some o := by rw [blk_alloc, if_neg (by have := blk_lt h; omega)]; exact h

theorem size_alloc (w : World) (o : Obj) : (w.alloc o).heap.size = w.heap.size + 1 := Array.size_push ..

theorem blk_set {w : World} {g i : Nat} {u : Value} {cs : List Value} {t : TypeId} (h : w.heap[g]? = some (.cells cs.toArray t)) : (w.setCell ⟨g, i, none⟩ u).heap[g]? = some (.cells (cs.set i u).toArray t) := by
  rw [blk_set_eq h]
  simp

theorem blk_set_far {w : World} {g k i : Nat} {u : Value} {o : Obj} (h : w.heap[k]? = some o) (hne : g ≠ k) : (w.setCell ⟨g, i, none⟩ u).heap[k]? = some o := by rw [blk_set_ne hne]; exact h

theorem blk_row_far {w : World} {g k : Nat} {cs : Array Value} {o : Obj} (h : w.heap[k]? = some o) (hne : g ≠ k) : (w.setRow g cs).heap[k]? = some o := by rw [blk_row_ne hne]; exact h

theorem cell_of {w : World} {g i : Nat} {cs : List Value} {t : TypeId} {u : Value} (h : w.heap[g]? = some (.cells cs.toArray t)) (hi : cs[i]? = some u) : w.cell? ⟨g, i, none⟩ = some u := cell_blk h (by simpa using hi)

/-- a node in memory newer than T -/
structure NodeOwn (T w : World) (h : NH) (n : Nd) : Prop where
  f : h.f = n.f
  b : NfB n.f
  far : Own 3 1 fI T w h.ao h.n h.cap n.far

theorem NodeOwn.ex {T w w' : World} {h : NH} {n : Nd} (a : NodeOwn T w h n) (hw : ∃ y, w' = plus w y) : NodeOwn T w' h n := ⟨a.f, a.b, a.far.ex hw⟩

theorem NodeOwn.base {T T' w : World} {h : NH} {n : Nd} (a : NodeOwn T w h n) (hT : T'.heap.size ≤ T.heap.size) : NodeOwn T' w h n := ⟨a.f, a.b, a.far.base hT⟩

def farAs (h : NH) (ao : Option Addr) (n cap : Nat) : NH := ⟨h.f, ao, n, cap⟩

theorem far_set (h : NH) (ao : Option Addr) (n cap : Nat) : (fN h).set 17 (.slice ao n cap) = fN (farAs h ao n cap) := rfl

theorem far_at (h : NH) : (fN h)[17]? = some (.slice h.ao h.n h.cap) := rfl

theorem kind_at (h : NH) : (fN h)[0]? = some (.int .u8 h.f.kind) := rfl

def RetNd (w : World) (n : Nd) (e : Ending) (w' : World) : Prop := ∃ h, e = .returned (vN h) ∧ (∃ y, w' = plus w y) ∧ NodeOwn w w' h n

end

end Go.Proofs.YtcekcihijdipoaaGreat
