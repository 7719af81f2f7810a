/- A pack of texts: Mesh5, Mesh13, Mesh15, Open3, Open4, Ed6, Tx4, Ed7, Mesh14, Ed8. -/
import Derived.SizedLaws
import Derived.Test.YtcekcihijdipoaaGreatPK6
import Derived.Test.YtcekcihijdipoaaGreatPK7
import Derived.Test.YtcekcihijdipoaaGreatPK1
import Derived.Test.YtcekcihijdipoaaGreatPK4
namespace Go.Proofs.YtcekcihijdipoaaGreat

section


open Go.RowKit Go.ChangeShapes Go.WideShapes Go.ChangeAt

set_option linter.unusedSimpArgs false

set_option linter.unusedVariables false

attribute [local go_sem] plus_size plus_drew dn_set dn_alloc dn_plus plus_dn cell_plus frozen_plus set_plus cell_alloc frozen_alloc set_alloc

attribute [local go_sem] eqarr_40 nearr_40 larr_40

attribute [local go_sem] eqarr_137 nearr_137 larr_137

attribute [local go_sem] isnil_47

attribute [local go_sem] isnil_57

attribute [local go_sem] isnil_58

attribute [local go_sem] isnil_59

theorem cloneI (ao : Option Addr) (n cap : Nat) (l : List Int) (w : World) (hl : Lay fI w ao n l) (hn : n ≤ 10000) (hz : ao = none → cap = 0) :
    Calls Tryz.prog 83 #[.slice ao n cap] w fun e w' => RetO 3 1 fI w l e w' := by
  cases ao with
  | none =>
    obtain rfl : n = 0 := by rcases hl.at0 with h | ⟨g, off, h, _⟩; exact h; cases h
    obtain rfl := hz rfl
    obtain rfl := hl.zero
    go_enter Tryz.func83, Tryz.ntmps83
    go_wp2
    go_ret
    exact ⟨none, 0, 0, rfl, skM, own_nil⟩
  | some a =>
    go_enter Tryz.func83, Tryz.ntmps83
    go_wp2_with (at_builtin; (refine wpList_append_lay (T := w) (l := []) rfl _ _ rfl kinI fI_c fI_1 rfl skM ⟨rfl, World.ownsRow_made w _ 0 (Nat.le_refl _) (by decide) rfl⟩ rfl (hl.ex skM) (by omega) (by decide) ?_; intro ao' cap' y' hown'))
    go_ret
    rw [Nat.zero_add, List.nil_append] at hown'
    exact ⟨ao', _, cap', rfl, skM, hown'⟩

theorem cloneV (ao : Option Addr) (n cap : Nat) (l : List V3) (w : World) (hl : Lay fV w ao n l) (hn : n ≤ 10000) (hz : ao = none → cap = 0) :
    Calls Tryz.prog 84 #[.slice ao n cap] w fun e w' => RetO 43 3 fV w l e w' := by
  cases ao with
  | none =>
    obtain rfl : n = 0 := by rcases hl.at0 with h | ⟨g, off, h, _⟩; exact h; cases h
    obtain rfl := hz rfl
    obtain rfl := hl.zero
    go_enter Tryz.func84, Tryz.ntmps84
    go_wp2
    go_ret
    exact ⟨none, 0, 0, rfl, skM, own_nil⟩
  | some a =>
    go_enter Tryz.func84, Tryz.ntmps84
    go_wp2_with (at_builtin; (refine wpList_append_lay (T := w) (l := []) rfl _ _ rfl kinV fV_c fV_1 rfl skM ⟨rfl, World.ownsRow_made w _ 0 (Nat.le_refl _) (by decide) rfl⟩ rfl (hl.ex skM) (by omega) (by decide) ?_; intro ao' cap' y' hown'))
    go_ret
    rw [Nat.zero_add, List.nil_append] at hown'
    exact ⟨ao', _, cap', rfl, skM, hown'⟩

theorem clone2 (ao : Option Addr) (n cap : Nat) (l : List (Int × Int)) (w : World) (hl : Lay f2 w ao n l) (hn : n ≤ 10000) (hz : ao = none → cap = 0) :
    Calls Tryz.prog 85 #[.slice ao n cap] w fun e w' => RetO 137 2 f2 w l e w' := by
  cases ao with
  | none =>
    obtain rfl : n = 0 := by rcases hl.at0 with h | ⟨g, off, h, _⟩; exact h; cases h
    obtain rfl := hz rfl
    obtain rfl := hl.zero
    go_enter Tryz.func85, Tryz.ntmps85
    go_wp2
    go_ret
    exact ⟨none, 0, 0, rfl, skM, own_nil⟩
  | some a =>
    go_enter Tryz.func85, Tryz.ntmps85
    go_wp2_with (at_builtin; (refine wpList_append_lay (T := w) (l := []) rfl _ _ rfl kin2 f2_c f2_1 rfl skM ⟨rfl, World.ownsRow_made w _ 0 (Nat.le_refl _) (by decide) rfl⟩ rfl (hl.ex skM) (by omega) (by decide) ?_; intro ao' cap' y' hown'))
    go_ret
    rw [Nat.zero_add, List.nil_append] at hown'
    exact ⟨ao', _, cap', rfl, skM, hown'⟩

end

section


open Go.RowKit Go.ChangeShapes Go.WideShapes Go.ChangeAt

set_option linter.unusedSimpArgs false

set_option linter.unusedVariables false

attribute [local go_sem] plus_size plus_drew dn_set dn_alloc dn_plus plus_dn cell_plus frozen_plus set_plus cell_alloc frozen_alloc set_alloc

attribute [local go_sem] eqarr_40 nearr_40 larr_40

attribute [local go_sem] eqarr_137 nearr_137 larr_137

attribute [local go_sem] isnil_47

attribute [local go_sem] isnil_57

attribute [local go_sem] isnil_58

attribute [local go_sem] isnil_59

def samePr (p q : Pr) : Bool := decide (p.kind = q.kind) && sameI p.ix q.ix

def samePs (l l2 : List Pr) : Bool := sameL samePr dPr l l2

def sameMs (m o : Ms) : Bool := sameV m.vs o.vs && same2 m.uv o.uv && samePs m.ps o.ps

/-- no primitive has more than 1000 numbers -/
def FewM (hs : List PH) : Prop := ∀ k, k < hs.length → (nth dPH hs k).n ≤ 1000

theorem samePrim_calls (k1 k2 : Int) (a1 a2 : Option Addr) (n1 n2 c1 c2 : Nat) (x1 x2 : List Int) (w : World) (hl1 : Lay fI w a1 n1 x1) (hl2 : Lay fI w a2 n2 x2) (hn1 : n1 ≤ 1000) (hn2 : n2 ≤ 1000) :
    Calls Tryz.prog 110 #[.agg #[.int .u8 k1, .slice a1 n1 c1], .agg #[.int .u8 k2, .slice a2 n2 c2]] w fun e w' => e = .returned (.bool (samePr ⟨k1, x1⟩ ⟨k2, x2⟩)) ∧ Below w.heap.size w w' := by
  by_cases hk : k1 = k2
  · rw [show samePr ⟨k1, x1⟩ ⟨k2, x2⟩ = sameI x1 x2 by simp [samePr, hk]]
    subst hk
    go_enter Tryz.func110, Tryz.ntmps110
    go_wp2_with (go_at_call 93; refine (plus_post (equalI_calls _ _ _ _ _ _ x1 x2 _ (hl1.ex skM) (hl2.ex skM) (by omega) (by omega))).mono ?_; rintro e w' ⟨rfl, nx, rfl⟩)
    go_ret
    exact ⟨rfl, by with_reducible repeat (first | exact Below.refl _ _ | apply ba | apply bp | apply bd | apply bn)⟩
  · rw [show samePr ⟨k1, x1⟩ ⟨k2, x2⟩ = false by simp [samePr, hk]]
    have dk : (k1 == k2) = false := by rw [beq_eq_false_iff_ne]; exact hk
    go_enter Tryz.func110, Tryz.ntmps110
    go_wp2_with (go_at_call 93; refine (plus_post (equalI_calls _ _ _ _ _ _ x1 x2 _ (hl1.ex skM) (hl2.ex skM) (by omega) (by omega))).mono ?_; rintro e w' ⟨rfl, nx, rfl⟩)
    go_ret
    exact ⟨rfl, by with_reducible repeat (first | exact Below.refl _ _ | apply ba | apply bp | apply bd | apply bn)⟩

set_option maxHeartbeats 4000000 in
theorem equalFunc_calls (pa qa : Option Addr) (pn qn pc qc : Nat) (hs gs : List PH) (ps qs : List Pr) (w : World) (hpl : Lay fP w pa pn hs) (hql : Lay fP w qa qn gs) (hpp : PrimsAt w hs ps) (hqq : PrimsAt w gs qs) (hf : FewM hs) (hg : FewM gs) (hpn : pn ≤ 10000) (hqn : qn ≤ 10000) :
    Calls Tryz.prog 109 #[.slice pa pn pc, .slice qa qn qc, .func (.func 110) #[] #[]] w fun e w' => e = .returned (.bool (samePs ps qs)) ∧ Below w.heap.size w w' := by
  have l1 := hpl.len
  have l2 := hql.len
  have l3 := hpp.len
  have l4 := hqq.len
  by_cases hne : pn = qn
  rotate_left
  · rw [show samePs ps qs = false from same_len (by omega)]
    have ine : ¬ (pn : Int) = (qn : Int) := by omega
    have dne : ((pn : Int) == (qn : Int)) = false := by rw [beq_eq_false_iff_ne]; omega
    go_enter Tryz.func109, Tryz.ntmps109
    go_wp2
    go_ret
    exact ⟨rfl, by with_reducible repeat (first | exact Below.refl _ _ | apply ba | apply bp | apply bd | apply bn)⟩
  subst hne
  go_enter Tryz.func109, Tryz.ntmps109
  go_wp2
  go_loopw [17] (fun i wr => ∃ k : Nat, k ≤ pn ∧ i = .int .i64 k ∧ (∀ j, j < k → samePr (nth dPr ps j) (nth dPr qs j) = true) ∧ ∃ x, wr = plus w x) (fun i _ => pn - (intOf i).toNat)
  case atStart => exact ⟨0, Nat.zero_le _, rfl, fun j hj => by omega, skM⟩
  case round =>
    obtain ⟨k, hk, rfl, hs1, x, rfl⟩ := hrel
    by_cases hkl : k < pn
    · obtain ⟨g, off, rfl, hgl, hcell⟩ := hpl.some (by omega)
      obtain ⟨g2, off2, rfl, hgl2, hcell2⟩ := hql.some (by omega)
      have ik : (k : Int) < (pn : Int) := by omega
      have hf1 := hf k (by omega)
      have hg1 := hg k (by omega)
      obtain ⟨p0, p1⟩ := cellP hpl.len hcell (k := k) (by omega)
      have hp := hpp.one k (by rw [hpl.len]; omega)
      generalize hpep : nth dPr ps k = pr at *
      generalize hhep : nth dPH hs k = ph at *
      obtain ⟨pk, pA, pN, pC⟩ := ph
      obtain ⟨pk2, px⟩ := pr
      obtain ⟨hp1, hp2, hp3, hp4, hp5, hp6⟩ := hp
      simp only at p0 p1 hp1 hp2 hp3 hp4 hp5 hp6
      subst hp1
      obtain ⟨q0, q1⟩ := cellP hql.len hcell2 (k := k) (by omega)
      have hq := hqq.one k (by rw [hql.len]; omega)
      generalize hpeq : nth dPr qs k = qr at *
      generalize hheq : nth dPH gs k = qh at *
      obtain ⟨qk, qA, qN, qC⟩ := qh
      obtain ⟨qk2, qx⟩ := qr
      obtain ⟨hq1, hq2, hq3, hq4, hq5, hq6⟩ := hq
      simp only at q0 q1 hq1 hq2 hq3 hq4 hq5 hq6
      subst hq1
      simp only at hf1 hg1
      cases he : samePr ⟨pk, px⟩ ⟨qk, qx⟩
      · go_wp2_with (go_at_call 110; refine (plus_post (samePrim_calls _ _ _ _ _ _ _ _ px qx _ (hp6.ex skM) (hq6.ex skM) (by omega) (by omega))).mono ?_; rintro e w' ⟨rfl, nx, rfl⟩; rw [he])
        go_ret
        exact ⟨by rw [show samePs ps qs = false from same_not (k := k) (by omega) (by rw [hpep, hpeq]; exact he)]; rfl, by with_reducible repeat (first | exact Below.refl _ _ | apply ba | apply bp | apply bd | apply bn)⟩
      · go_wp2_with (go_at_call 110; refine (plus_post (samePrim_calls _ _ _ _ _ _ _ _ px qx _ (hp6.ex skM) (hq6.ex skM) (by omega) (by omega))).mono ?_; rintro e w' ⟨rfl, nx, rfl⟩; rw [he])
        go_roundw
        case rel => exact ⟨k + 1, by omega, by go_num, upto_succM hs1 (by rw [hpep, hpeq]; exact he), skM⟩
        case measure => simp [intOf]; omega
    · have ik : ¬ (k : Int) < (pn : Int) := by omega
      go_wp2
      go_ret
      exact ⟨by rw [show samePs ps qs = true from same_all (by omega) (fun j hj => hs1 j (by omega))]; rfl, by with_reducible repeat (first | exact Below.refl _ _ | apply ba | apply bp | apply bd | apply bn)⟩

end

section


open Go.RowKit Go.ChangeShapes Go.WideShapes Go.ChangeAt

set_option linter.unusedSimpArgs false

set_option linter.unusedVariables false

attribute [local go_sem] plus_size plus_drew dn_set dn_alloc dn_plus plus_dn cell_plus frozen_plus set_plus cell_alloc frozen_alloc set_alloc

attribute [local go_sem] eqarr_40 nearr_40 larr_40

attribute [local go_sem] eqarr_137 nearr_137 larr_137

attribute [local go_sem] isnil_47

attribute [local go_sem] isnil_57

attribute [local go_sem] isnil_58

attribute [local go_sem] isnil_59

theorem cloneP (ao : Option Addr) (n cap : Nat) (l : List PH) (w : World) (hl : Lay fP w ao n l) (hn : n ≤ 10000) (hz : ao = none → cap = 0) :
    Calls Tryz.prog 86 #[.slice ao n cap] w fun e w' => RetO 131 2 fP w l e w' := by
  cases ao with
  | none =>
    obtain rfl : n = 0 := by rcases hl.at0 with h | ⟨g, off, h, _⟩; exact h; cases h
    obtain rfl := hz rfl
    obtain rfl := hl.zero
    go_enter Tryz.func86, Tryz.ntmps86
    go_wp2
    go_ret
    exact ⟨none, 0, 0, rfl, skM, own_nil⟩
  | some a =>
    go_enter Tryz.func86, Tryz.ntmps86
    go_wp2_with (at_builtin; (refine wpList_append_lay (T := w) (l := []) rfl _ _ rfl kinP fP_c fP_1 rfl skM ⟨rfl, World.ownsRow_made w _ 0 (Nat.le_refl _) (by decide) rfl⟩ rfl (hl.ex skM) (by omega) (by decide) ?_; intro ao' cap' y' hown'))
    go_ret
    rw [Nat.zero_add, List.nil_append] at hown'
    exact ⟨ao', _, cap', rfl, skM, hown'⟩

def greatBM (vn un pn : Nat) (hs : List PH) : Bool := decide (1000 < vn) || decide (1000 < un) || decide (100 < pn) || hs.any (fun h => decide (1000 < h.n))

theorem great_noM {vn un pn : Nat} {hs : List PH} (h : greatBM vn un pn hs = false) : vn ≤ 1000 ∧ un ≤ 1000 ∧ pn ≤ 100 ∧ FewM hs := by
  simp only [greatBM, Bool.or_eq_false_iff, decide_eq_false_iff_not] at h
  obtain ⟨⟨⟨h1, h2⟩, h3⟩, h4⟩ := h
  refine ⟨by omega, by omega, by omega, fun k hk => ?_⟩
  have h5 := List.any_eq_false.1 h4 _ (nth_mem (d := dPH) hk)
  simp only [decide_eq_true_eq] at h5
  omega

set_option maxHeartbeats 2000000 in
theorem great_callsM (va ua pa : Option Addr) (vn vc un uc pn pc : Nat) (hs : List PH) (m : Ms) (w : World) (hm : MeshAt w ⟨va, vn, vc, ua, un, uc, pa, pn, pc⟩ hs m) :
    Calls Tryz.prog 34 #[.agg #[.slice va vn vc, .slice ua un uc, .slice pa pn pc]] w fun e w' => e = .returned (.bool (greatBM vn un pn hs)) ∧ Below w.heap.size w w' := by
  have hpl : Lay fP w pa pn hs := hm.pl
  have hpp : PrimsAt w hs m.ps := hm.pp
  have l1 := hpl.len
  have hz := hm.ple
  have hz2 := hm.vle
  have hz3 := hm.ule
  simp only at hz hz2 hz3
  by_cases h1 : 1000 < vn
  · rw [show greatBM vn un pn hs = true by simp [greatBM, h1]]
    have i1 : (1000 : Int) < (vn : Int) := by omega
    go_enter Tryz.func34, Tryz.ntmps34
    go_wp2
    go_ret
    exact ⟨rfl, by with_reducible repeat (first | exact Below.refl _ _ | apply ba | apply bp | apply bd | apply bn)⟩
  have i1 : ¬ (1000 : Int) < (vn : Int) := by omega
  by_cases h2 : 1000 < un
  · rw [show greatBM vn un pn hs = true by simp [greatBM, h2]]
    have i2 : (1000 : Int) < (un : Int) := by omega
    go_enter Tryz.func34, Tryz.ntmps34
    go_wp2
    go_ret
    exact ⟨rfl, by with_reducible repeat (first | exact Below.refl _ _ | apply ba | apply bp | apply bd | apply bn)⟩
  have i2 : ¬ (1000 : Int) < (un : Int) := by omega
  by_cases h3 : 100 < pn
  · rw [show greatBM vn un pn hs = true by simp [greatBM, h3]]
    have i3 : (100 : Int) < (pn : Int) := by omega
    go_enter Tryz.func34, Tryz.ntmps34
    go_wp2
    go_ret
    exact ⟨rfl, by with_reducible repeat (first | exact Below.refl _ _ | apply ba | apply bp | apply bd | apply bn)⟩
  have i3 : ¬ (100 : Int) < (pn : Int) := by omega
  have hgr : greatBM vn un pn hs = hs.any (fun h => decide (1000 < h.n)) := by simp [greatBM, h1, h2, h3]
  rw [hgr]
  obtain ⟨ps, hps⟩ : ∃ ps, m.ps = ps := ⟨_, rfl⟩
  rw [hps] at hpp
  go_enter Tryz.func34, Tryz.ntmps34
  go_wp2
  go_loopw [3] (fun i wr => ∃ k : Nat, k ≤ pn ∧ i = .int .i64 k ∧ (∀ j, j < k → decide (1000 < (nth dPH hs j).n) = false) ∧ ∃ x, wr = plus (w.alloc (.cells #[.slice va vn vc, .slice ua un uc, .slice pa pn pc] 61)) x) (fun i _ => pn - (intOf i).toNat)
  case atStart => exact ⟨0, Nat.zero_le _, rfl, fun j hj => by omega, skM⟩
  case round =>
    obtain ⟨k, hk, rfl, hs1, x, rfl⟩ := hrel
    by_cases hkl : k < pn
    · obtain ⟨g, off, rfl, hgl, hcell⟩ := hpl.some (by omega)
      obtain ⟨d0, d1⟩ := cellP hpl.len hcell (k := k) hkl
      have ik : (k : Int) < (pn : Int) := by omega
      by_cases h4 : 1000 < (nth dPH hs k).n
      · have i4 : (1000 : Int) < ((nth dPH hs k).n : Int) := by omega
        go_wp2
        go_ret
        exact ⟨by rw [show hs.any (fun h => decide (1000 < h.n)) = true from List.any_eq_true.2 ⟨_, nth_mem (d := dPH) (k := k) (by omega), decide_eq_true h4⟩]; rfl, by with_reducible repeat (first | exact Below.refl _ _ | apply ba | apply bp | apply bd | apply bn)⟩
      · have i4 : ¬ (1000 : Int) < ((nth dPH hs k).n : Int) := by omega
        go_wp2
        go_roundw
        case rel => exact ⟨k + 1, by omega, by go_num, upto_succM hs1 (decide_eq_false h4), skM⟩
        case measure => simp [intOf]; omega
    · have ik : ¬ (k : Int) < (pn : Int) := by omega
      go_wp2
      go_ret
      exact ⟨by rw [show hs.any (fun h => decide (1000 < h.n)) = false from List.any_eq_false.2 (fun h hh => by (obtain ⟨q, hq, rfl⟩ := List.getElem_of_mem hh); (have h5 := hs1 q (by omega)); rw [nth_eq hq] at h5; rw [h5]; decide)]; rfl, by with_reducible repeat (first | exact Below.refl _ _ | apply ba | apply bp | apply bd | apply bn)⟩

end

section


open Go.RowKit Go.ChangeShapes Go.WideShapes Go.ChangeAt Go.Deep

section

variable {H : Type} {enc : TypeId × Value → H} {P : Program} {W : World} {base : Nat} {spare : Nat → Bool} {held : Bool} {f0 f1 g0 : Field} {t e ta : TypeId}

theorem slot_cells {fuel : Nat} {x : DataW H × List MemPlace} {c0 c1 : Value} (hs : P.underlying t = some (.struct #[f0, f1])) (hone : oneCellFields P #[f0, f1] = true) (hk : P.underlying f0.type = some (.int .i64)) (hi : P.underlying f1.type = some .bool)
    (h : DataW.trod enc P W base spare held fuel t [c0, c1] = some x) : ∃ s : Sl, [c0, c1] = fS s := by
  obtain ⟨y0, y1, n, hx, _, h0, h1⟩ := trod_struct2 hs h
  obtain ⟨o0, k0⟩ := hone_of hone 0 f0 rfl
  obtain ⟨o1, k1⟩ := hone_of hone 1 f1 rfl
  have h0' : DataW.trod enc P W base spare held n f0.type [c0] = some y0 := by simpa [o0, k0] using h0
  have h1' : DataW.trod enc P W base spare held n f1.type [c1] = some y1 := by simpa [o1, k1] using h1
  obtain ⟨k, ek, _, wk⟩ := DataW.trod_int hk h0'
  obtain rfl : c0 = .int .i64 k := by simpa using ek
  obtain ⟨b, eb, _⟩ := DataW.trod_bool hi h1'
  obtain rfl : c1 = .bool b := by simpa using eb
  exact ⟨⟨k, b⟩, rfl⟩

theorem lay_slots {ao : Option Addr} {n : Nat} (hs : P.underlying t = some (.struct #[f0, f1])) (hone : oneCellFields P #[f0, f1] = true) (hk : P.underlying f0.type = some (.int .i64)) (hi : P.underlying f1.type = some .bool)
    (h : RowsAt W ao n 2 (fun cs => ∃ m y, DataW.trod enc P W base spare held m t cs = some y)) : ∃ l : List Sl, Lay fS W ao n l := by
  obtain ⟨l, hl, _⟩ := lay_rows (f := fS) (R := fun _ => True) dSl (by decide) fS_c h (by
    rintro cs hl ⟨m, y, hy⟩
    match cs, hl, hy with
    | [a, b], _, hy =>
      obtain ⟨s, e1⟩ := slot_cells hs hone hk hi hy
      exact ⟨s, e1, trivial⟩)
  exact ⟨l, hl⟩

end

end

section


open Go.RowKit Go.ChangeShapes Go.WideShapes Go.ChangeAt Go.Deep

section

variable {H : Type} {enc : TypeId × Value → H} {P : Program} {W : World} {base : Nat} {spare : Nat → Bool} {held : Bool} {f0 f1 g0 s0 s1 : Field} {t e ta tg ts te : TypeId}

/-- all slices of a datum lie within the form's own reach -/
def Sm (P : Program) (t : TypeId) (d : DataW H) : Prop := ∀ x, x ∈ d.weights P t → x ≤ reachBytes

theorem sm_of {ts : List TypeId} {ds : List (DataW H)} (h : (DataW.weightsEach P ts ds).all (fun x => decide (x ≤ reachBytes)) = true) {j : Nat} {d : DataW H} (ht : ts[j]? = some t) (hd : ds[j]? = some d) : Sm P t d := by
  intro x hx
  have := List.all_eq_true.1 h x (DataW.weights_mem_each ht hd x hx)
  simpa using this

theorem all_mem {d : DataW H} {x : Nat} : ∀ {l : List (DataW H)}, d ∈ l → x ∈ d.weights P e → x ∈ DataW.weightsAll P e l
  | [], h, _ => by simp at h
  | a :: l, h, hx => by
    rw [DataW.weightsAll, List.mem_append]
    rcases List.mem_cons.1 h with rfl | h
    · exact .inl hx
    · exact .inr (all_mem h hx)

theorem sm_field {fs : Array Field} {parts : List (DataW H)} (hu : P.underlying t = some (.struct fs)) (h : Sm P t (.agg parts)) {j : Nat} {f : Field} {d : DataW H} (hf : fs[j]? = some f) (hd : parts[j]? = some d) : Sm P f.type d := by
  intro x hx
  refine h x ?_
  simp only [DataW.weights, hu]
  exact DataW.weights_mem_each (j := j) (t := f.type) (by simp [hf]) hd x hx

theorem open_slS {c fuel : Nat} {v : Value} {x : DataW H × List MemPlace} (ht : P.underlying t = some (.slice e)) (hc : P.cellsOf e = c) (hc0 : 0 < c) (h : DataW.trod enc P W base spare held fuel t [v] = some x) (hS : Sm P t x.1) :
    ∃ (ao : Option Addr) (n cap : Nat), v = .slice ao n cap ∧ n ≤ 9223372036854775807 ∧ n ≤ cap ∧ n * P.bytesOf e ≤ reachBytes ∧ (ao = none → n = 0 ∧ cap = 0) ∧ RowsAt W ao n c (fun cs => ∃ m y, DataW.trod enc P W base spare held m e cs = some y ∧ Sm P e y.1) := by
  rcases Go.Deep.open_slice ht h with ⟨h0, _⟩ | ⟨a, len, cap, m, n, D, Pl, h0, hb, hl, hm, hmm, hx, hall⟩
  · obtain rfl : v = .slice none 0 0 := by simpa using h0
    exact ⟨none, 0, 0, rfl, by decide, Nat.le_refl _, by simp, fun _ => ⟨rfl, rfl⟩, .inl rfl⟩
  · obtain rfl : v = .slice (some a) len cap := by simpa using h0
    have hlm : len ≤ m := by rw [hmm]; split <;> omega
    rw [hx] at hS
    have hw : len * P.bytesOf e ≤ reachBytes := by
      have h1 := hS ((len + (m - len)) * P.bytesOf e) (by simp [DataW.weights, ht])
      exact Nat.le_trans (Nat.mul_le_mul_right _ (Nat.le_add_right _ _)) h1
    refine ⟨some a, len, cap, rfl, by unfold maxLen at hm; omega, hl, hw, (fun h => by cases h), ?_⟩
    by_cases hz : len = 0
    · exact .inl hz
    right
    obtain ⟨cs0, hc1, _⟩ := hall 0 (by omega)
    rw [hc] at hc1
    obtain ⟨_, hl1, hcell⟩ := World.cells?_some hc1
    have hcell0 := hcell 0 hc0
    rw [List.getElem?_eq_getElem (by omega)] at hcell0
    simp only [Nat.zero_mul, Addr.add, if_true] at hcell0
    obtain ⟨ea, hlt⟩ := addr_none hcell0
    refine ⟨a.block, a.off, by rw [← ea], hlt, fun i hi => ?_⟩
    obtain ⟨cs, hc2, htr⟩ := hall i (by omega)
    rw [hc] at hc2
    obtain ⟨_, hl2, hcell2⟩ := World.cells?_some hc2
    refine ⟨cs, hl2, fun j hj => ?_, n, _, htr, fun y hy => hS y ?_⟩
    · have hcj := hcell2 j hj
      rw [ea, add_none, add_none, Nat.add_assoc] at hcj
      exact hcj
    · simp only [DataW.weights, ht, List.mem_cons, List.mem_append]
      exact .inr (.inl (all_mem (d := D i) (List.mem_map.2 ⟨i, List.mem_range.2 hi, rfl⟩) hy))

/-- a graph lies in memory, however great -/
structure GrIn (w : World) (ao : Option Addr) (n : Nat) (ko : Option Addr) (kn : Nat) (hs : List RH) (g : Gr) : Prop where
  sl : Lay fS w ao n g.sl
  kh : Lay fR w ko kn hs
  len : hs.length = g.ks.length
  row : ∀ k, k < hs.length → Lay f2 w (nth dRH hs k).ao (nth dRH hs k).n (nth [] g.ks k)
  n1 : n ≤ 9223372036854775807
  n2 : kn ≤ 9223372036854775807
  n3 : ∀ k, k < hs.length → (nth dRH hs k).n ≤ 8796093022208
  n4 : ∀ k, k < hs.length → (nth dRH hs k).n ≤ (nth dRH hs k).cap
  n5 : ∀ k, k < hs.length → (nth dRH hs k).ao = none → (nth dRH hs k).n = 0 ∧ (nth dRH hs k).cap = 0

theorem GrIn.few {w : World} {ao : Option Addr} {n : Nat} {ko : Option Addr} {kn : Nat} {hs : List RH} {g : Gr} (h : GrIn w ao n ko kn hs g) (hg : greatB n kn hs = false) : GrAt w ao n ko kn hs g := by
  obtain ⟨h1, h2, h3⟩ := great_no hg
  refine ⟨h.sl, h.kh, h.len, h.row, by omega, by omega, fun k hk => ?_, h.n4, h.n5⟩
  rw [h.kh.len] at hk
  have := sum_at hs hk
  omega

theorem row_cells {fuel : Nat} {x : DataW H × List MemPlace} {c0 : Value} (ht : P.underlying t = some (.slice e)) (hc : P.cellsOf e = 2) (hf : flatB P 4 e = true) (hb : P.bytesOf e = 16) (h : DataW.trod enc P W base spare held fuel t [c0] = some x) (hS : Sm P t x.1) :
    ∃ r : RH, [c0] = fR r ∧ ∃ l : List (Int × Int), Lay f2 W r.ao r.n l ∧ r.n ≤ 8796093022208 ∧ r.n ≤ r.cap ∧ (r.ao = none → r.n = 0 ∧ r.cap = 0) := by
  obtain ⟨ao, n, cap, rfl, _, h2, h3, h4, h5⟩ := open_slS ht hc (by decide) h hS
  have h5' : RowsAt W ao n 2 (fun cs => ∃ m y, DataW.trod enc P W base spare held m e cs = some y) := by
    rcases h5 with h | ⟨g, off, e1, hg, h⟩
    · exact .inl h
    · exact .inr ⟨g, off, e1, hg, fun i hi => by obtain ⟨cs, a, b, m, y, c, _⟩ := h i hi; exact ⟨cs, a, b, m, y, c⟩⟩
  obtain ⟨l, hl⟩ := lay_twos hf h5'
  rw [hb] at h3
  exact ⟨⟨ao, n, cap⟩, rfl, l, hl, by unfold reachBytes at h3; simp only; omega, h2, h4⟩

end

end

section


open Go.RowKit Go.ChangeShapes Go.WideShapes Go.ChangeAt

set_option linter.unusedSimpArgs false

set_option linter.unusedVariables false

attribute [local go_sem] plus_size plus_drew dn_set dn_alloc dn_plus plus_dn cell_plus frozen_plus set_plus cell_alloc frozen_alloc set_alloc

theorem cellFar {w : World} {g o n k : Nat} {l : List NH} (hn : l.length = n) (h : ∀ j u, (l.flatMap fN)[j]? = some u → w.cell? ⟨g, o + j, none⟩ = some u) (hk : k < n) : w.cell? ⟨g, o + k * 33 + 17, none⟩ = some (.slice (nth nh0 l k).ao (nth nh0 l k).n (nth nh0 l k).cap) := by
  have h0 := cell_nth (d := nh0) hn fN_c h k 17 _ hk (by decide) rfl
  rwa [← Nat.add_assoc] at h0

/-- is a scene larger than statements go through? -/
def meshG (hs : List MH) (ps : List (List PH)) (k : Nat) : Bool := greatBM (nth mh0 hs k).vn (nth mh0 hs k).un (nth mh0 hs k).pn (nth [] ps k)

def greatSc (h : SH) (x : SX) : Bool := greatB h.gn h.kn x.gr || (decide (200 < h.nn) || (decide (60 < h.mn) || (decide (60 < h.tn) || (greatT x.th || (x.nh.any (fun q => decide (200 < q.n)) || (List.range x.mh.length).any (meshG x.mh x.ph))))))

theorem rgreatM_at {w : World} {h : MH} {hs : List PH} {m : Ms} (hm : MeshAt w h hs m) : Calls Tryz.prog 34 #[.agg #[.slice h.va h.vn h.vc, .slice h.ua h.un h.uc, .slice h.pa h.pn h.pc]] w fun e w' => e = .returned (.bool (greatBM h.vn h.un h.pn hs)) ∧ Below w.heap.size w w' :=
  great_callsM _ _ _ _ _ _ _ _ _ hs m w hm

set_option maxHeartbeats 4000000 in
theorem rgreat10_calls (h : SH) (x : SX) (s : Sc) (w : World) (hG : GrIn w h.ga h.gn h.ka h.kn x.gr s.g) (hR : RestAt w h x s) :
    Calls Tryz.prog 13 #[vS h] w fun e w' => e = .returned (.bool (greatSc h x)) ∧ ∃ y, w' = plus w y := by
  obtain ⟨ga, gn, gc, ka, kn, kc, na, nn, nc, ma, mn, mc, ta, tn, tc, r0, r1⟩ := h
  have nl := hR.nl
  have ns := hR.ns
  have ml := hR.ml
  have ms := hR.ms
  have tl := hR.tl
  have ts := hR.ts
  have n1 := hR.n1
  have n2 := hR.n2
  have n3 := hR.n3
  simp only at nl ml ms tl ts n1 n2 n3 hG
  clear hR
  have nlen := nl.len
  have mlen := ml.len
  have mlen2 := ms.len
  have tlen := tl.len
  have htn : ∀ k, k < tn → (nth th0 x.th k).n ≤ 9223372036854775807 := fun k hk => (ts.one k (by omega)).tx.le
  have hgn := hG.n1
  have hkn := hG.n2
  have hgk := hG.kh
  have hgr : ∀ k, k < kn → (nth dRH x.gr k).n ≤ 8796093022208 := fun k hk => hG.n3 k (by rw [hgk.len]; exact hk)
  replace htn := Hush9.mk htn
  replace hgr := Hush9.mk hgr
  clear hG
  unfold vS
  simp only
  cases hg : greatB gn kn x.gr
  rotate_left
  · go_enter Tryz.func13, Tryz.ntmps13
    go_wp2_with (first | (go_at_call 32; refine (plus_post (great_calls _ _ _ _ _ _ x.gr _ (hgk.ex sk9) hgn hkn hgr.it)).mono ?_; rintro e w' ⟨rfl, nx, rfl⟩; rw [hg]) | (go_at_call 33; refine (rgreat9_calls _ _ _ x.th _ (tl.ex sk9) n3 htn.it).mono ?_; rintro e w' ⟨rfl, nx, rfl⟩; rw [hgt]))
    go_ret
    exact ⟨by rw [show greatSc ⟨ga, gn, gc, ka, kn, kc, na, nn, nc, ma, mn, mc, ta, tn, tc, r0, r1⟩ x = true by simp [greatSc, hg]]; rfl, sk9⟩
  by_cases b1 : 200 < nn
  · have i1 : (200 : Int) < (nn : Int) := by omega
    go_enter Tryz.func13, Tryz.ntmps13
    go_wp2_with (first | (go_at_call 32; refine (plus_post (great_calls _ _ _ _ _ _ x.gr _ (hgk.ex sk9) hgn hkn hgr.it)).mono ?_; rintro e w' ⟨rfl, nx, rfl⟩; rw [hg]) | (go_at_call 33; refine (rgreat9_calls _ _ _ x.th _ (tl.ex sk9) n3 htn.it).mono ?_; rintro e w' ⟨rfl, nx, rfl⟩; rw [hgt]))
    go_ret
    exact ⟨by rw [show greatSc ⟨ga, gn, gc, ka, kn, kc, na, nn, nc, ma, mn, mc, ta, tn, tc, r0, r1⟩ x = true by simp [greatSc, b1]]; rfl, sk9⟩
  have i1 : ¬ (200 : Int) < (nn : Int) := by omega
  by_cases b2 : 60 < mn
  · have i2 : (60 : Int) < (mn : Int) := by omega
    go_enter Tryz.func13, Tryz.ntmps13
    go_wp2_with (first | (go_at_call 32; refine (plus_post (great_calls _ _ _ _ _ _ x.gr _ (hgk.ex sk9) hgn hkn hgr.it)).mono ?_; rintro e w' ⟨rfl, nx, rfl⟩; rw [hg]) | (go_at_call 33; refine (rgreat9_calls _ _ _ x.th _ (tl.ex sk9) n3 htn.it).mono ?_; rintro e w' ⟨rfl, nx, rfl⟩; rw [hgt]))
    go_ret
    exact ⟨by rw [show greatSc ⟨ga, gn, gc, ka, kn, kc, na, nn, nc, ma, mn, mc, ta, tn, tc, r0, r1⟩ x = true by simp [greatSc, b2]]; rfl, sk9⟩
  have i2 : ¬ (60 : Int) < (mn : Int) := by omega
  by_cases b3 : 60 < tn
  · have i3 : (60 : Int) < (tn : Int) := by omega
    go_enter Tryz.func13, Tryz.ntmps13
    go_wp2_with (first | (go_at_call 32; refine (plus_post (great_calls _ _ _ _ _ _ x.gr _ (hgk.ex sk9) hgn hkn hgr.it)).mono ?_; rintro e w' ⟨rfl, nx, rfl⟩; rw [hg]) | (go_at_call 33; refine (rgreat9_calls _ _ _ x.th _ (tl.ex sk9) n3 htn.it).mono ?_; rintro e w' ⟨rfl, nx, rfl⟩; rw [hgt]))
    go_ret
    exact ⟨by rw [show greatSc ⟨ga, gn, gc, ka, kn, kc, na, nn, nc, ma, mn, mc, ta, tn, tc, r0, r1⟩ x = true by simp [greatSc, b3]]; rfl, sk9⟩
  have i3 : ¬ (60 : Int) < (tn : Int) := by omega
  cases hgt : greatT x.th
  rotate_left
  · go_enter Tryz.func13, Tryz.ntmps13
    go_wp2_with (first | (go_at_call 32; refine (plus_post (great_calls _ _ _ _ _ _ x.gr _ (hgk.ex sk9) hgn hkn hgr.it)).mono ?_; rintro e w' ⟨rfl, nx, rfl⟩; rw [hg]) | (go_at_call 33; refine (rgreat9_calls _ _ _ x.th _ (tl.ex sk9) n3 htn.it).mono ?_; rintro e w' ⟨rfl, nx, rfl⟩; rw [hgt]))
    go_ret
    exact ⟨by rw [show greatSc ⟨ga, gn, gc, ka, kn, kc, na, nn, nc, ma, mn, mc, ta, tn, tc, r0, r1⟩ x = true by simp [greatSc, hgt]]; rfl, sk9⟩
  have hres : greatSc ⟨ga, gn, gc, ka, kn, kc, na, nn, nc, ma, mn, mc, ta, tn, tc, r0, r1⟩ x = (x.nh.any (fun q => decide (200 < q.n)) || (List.range mn).any (meshG x.mh x.ph)) := by simp [greatSc, hg, b1, b2, b3, hgt, mlen]
  rw [hres]
  clear hres
  go_enter Tryz.func13, Tryz.ntmps13
  go_wp2_with (first | (go_at_call 32; refine (plus_post (great_calls _ _ _ _ _ _ x.gr _ (hgk.ex sk9) hgn hkn hgr.it)).mono ?_; rintro e w' ⟨rfl, nx, rfl⟩; rw [hg]) | (go_at_call 33; refine (rgreat9_calls _ _ _ x.th _ (tl.ex sk9) n3 htn.it).mono ?_; rintro e w' ⟨rfl, nx, rfl⟩; rw [hgt]))
  go_loopw [3] (fun i wr => ∃ k : Nat, k ≤ nn ∧ i = .int .i64 k ∧ (∀ j, j < k → decide (200 < (nth nh0 x.nh j).n) = false) ∧ ∃ y, wr = plus (w.alloc (.cells #[.slice ga gn gc, .slice ka kn kc, .slice na nn nc, .slice ma mn mc, .slice ta tn tc, .int .i64 r0, .int .i64 r1] 34)) y) (fun i _ => nn - (intOf i).toNat)
  case atStart => exact ⟨0, Nat.zero_le _, rfl, fun j hj => by omega, sk9⟩
  case round =>
    obtain ⟨k, hk, rfl, hs, y, rfl⟩ := hrel
    by_cases hkl : k < nn
    · obtain ⟨g, off, rfl, hgl, hcell⟩ := nl.some (by omega)
      have c0 := cellFar nlen hcell hkl
      have ik : (k : Int) < (nn : Int) := by omega
      by_cases h2 : 200 < (nth nh0 x.nh k).n
      · have j2 : (200 : Int) < ((nth nh0 x.nh k).n : Int) := by omega
        go_wp2
        go_ret
        exact ⟨by rw [show x.nh.any (fun q => decide (200 < q.n)) = true from List.any_eq_true.2 ⟨_, nth_mem (d := nh0) (k := k) (by omega), decide_eq_true h2⟩]; rfl, sk9⟩
      · have j2 : ¬ (200 : Int) < ((nth nh0 x.nh k).n : Int) := by omega
        go_wp2
        go_roundw
        case rel => exact ⟨k + 1, by omega, by go_num, upto_succ9 hs (decide_eq_false h2), sk9⟩
        case measure => simp [intOf]; omega
    · have ik : ¬ (k : Int) < (nn : Int) := by omega
      obtain rfl : nn = k := by omega
      have hall : x.nh.any (fun q => decide (200 < q.n)) = false := List.any_eq_false.2 (fun q hq => by (obtain ⟨i, hi, rfl⟩ := List.getElem_of_mem hq); (have h5 := hs i (by omega)); rw [nth_eq hi] at h5; rw [h5]; decide)
      replace hall := Hush9.mk hall
      clear hs
      go_wp2
      go_loopw [4] (fun i wr => ∃ k : Nat, k ≤ mn ∧ i = .int .i64 k ∧ (∀ j, j < k → meshG x.mh x.ph j = false) ∧ ∃ y, wr = plus (w.alloc (.cells #[.slice ga gn gc, .slice ka kn kc, .slice na nn nc, .slice ma mn mc, .slice ta tn tc, .int .i64 r0, .int .i64 r1] 34)) y) (fun i _ => mn - (intOf i).toNat)
      case atStart => exact ⟨0, Nat.zero_le _, rfl, fun j hj => by omega, sk9⟩
      case round =>
        obtain ⟨k2, hk2, rfl, hs2, y2, rfl⟩ := hrel
        by_cases hkl2 : k2 < mn
        · obtain ⟨g, off, rfl, hgl, hcell⟩ := ml.some (by omega)
          obtain ⟨c0, c1, c2⟩ := cellMh mlen hcell hkl2
          have hone := ms.one k2 (by omega)
          have ik2 : (k2 : Int) < (mn : Int) := by omega
          cases hmg : meshG x.mh x.ph k2
          · have hq : greatBM (nth mh0 x.mh k2).vn (nth mh0 x.mh k2).un (nth mh0 x.mh k2).pn (nth [] x.ph k2) = false := hmg
            go_wp2_with (go_at_call 34; refine (plus_post (rgreatM_at (hone.ex sk9))).mono ?_; rintro e w' ⟨rfl, nx, rfl⟩; rw [hq])
            go_roundw
            case rel => exact ⟨k2 + 1, by omega, by go_num, upto_succ9 hs2 hmg, sk9⟩
            case measure => simp [intOf]; omega
          · have hq : greatBM (nth mh0 x.mh k2).vn (nth mh0 x.mh k2).un (nth mh0 x.mh k2).pn (nth [] x.ph k2) = true := hmg
            go_wp2_with (go_at_call 34; refine (plus_post (rgreatM_at (hone.ex sk9))).mono ?_; rintro e w' ⟨rfl, nx, rfl⟩; rw [hq])
            go_ret
            exact ⟨by rw [hall.it, show (List.range mn).any (meshG x.mh x.ph) = true from List.any_eq_true.2 ⟨k2, List.mem_range.2 (by omega), hmg⟩]; rfl, sk9⟩
        · have ik2 : ¬ (k2 : Int) < (mn : Int) := by omega
          go_wp2
          go_ret
          exact ⟨by rw [hall.it, show (List.range mn).any (meshG x.mh x.ph) = false from List.any_eq_false.2 (fun i hi => by rw [hs2 i (by have := List.mem_range.1 hi; omega)]; decide)]; rfl, sk9⟩

end

section


open Go.RowKit Go.ChangeShapes Go.WideShapes Go.ChangeAt

set_option linter.unusedSimpArgs false

set_option linter.unusedVariables false

attribute [local go_sem] plus_size plus_drew dn_set dn_alloc dn_plus plus_dn cell_plus frozen_plus set_plus cell_alloc frozen_alloc set_alloc

attribute [local go_sem] eqCx_refl

attribute [local go_sem] colc_50

attribute [local go_sem] cole_50

attribute [local go_sem] coln_50

set_option maxHeartbeats 2000000 in
theorem equalC_calls (ao ao2 : Option Addr) (n n2 cap cap2 : Nat) (l l2 : List Cl) (w : World) (hl : Lay fCl w ao n l) (hl2 : Lay fCl w ao2 n2 l2) (hn : n ≤ 9223372036854775807) (hn2 : n2 ≤ 9223372036854775807) :
    Calls Tryz.prog 111 #[.slice ao n cap, .slice ao2 n2 cap2] w fun e w' => e = .returned (.bool (sameC l l2)) ∧ ∃ y, w' = plus w y := by
  have hlen := hl.len
  have hlen2 := hl2.len
  by_cases hne : n = n2
  rotate_left
  · rw [show sameC l l2 = false from same_len (by omega)]
    have ine : ¬ (n : Int) = (n2 : Int) := by omega
    have dne : ((n : Int) == (n2 : Int)) = false := by rw [beq_eq_false_iff_ne]; omega
    go_enter Tryz.func111, Tryz.ntmps111
    go_wp2
    go_ret
    exact ⟨rfl, sk9⟩
  subst hne
  go_enter Tryz.func111, Tryz.ntmps111
  go_wp2
  go_loopw [13] (fun i wr => ∃ k : Nat, k ≤ n ∧ i = .int .i64 k ∧ (∀ j, j < k → eqCl (nth cl0 l j) (nth cl0 l2 j) = true) ∧ ∃ x, wr = plus w x) (fun i _ => n - (intOf i).toNat)
  case atStart => exact ⟨0, Nat.zero_le _, rfl, fun j hj => by omega, sk9⟩
  case round =>
    obtain ⟨k, hk, rfl, hs, x, rfl⟩ := hrel
    by_cases hkl : k < n
    · obtain ⟨g, off, rfl, hg, hcell⟩ := hl.some (by omega)
      obtain ⟨g2, off2, rfl, hg2, hcell2⟩ := hl2.some (by omega)
      have ik : (k : Int) < (n : Int) := by omega
      obtain ⟨c0, c1, c2, c3⟩ := cellCl hlen hcell hkl
      obtain ⟨d0, d1, d2, d3⟩ := cellCl hlen2 hcell2 hkl
      cases hq : eqCl (nth cl0 l k) (nth cl0 l2 k)
      · have hq' : eqCx (nth cl0 l k).r (nth cl0 l k).g (nth cl0 l k).b (nth cl0 l k).a (nth cl0 l2 k).r (nth cl0 l2 k).g (nth cl0 l2 k).b (nth cl0 l2 k).a = false := hq
        go_wp2
        refine region_plus (by kernel_rfl) (by kernel_rfl) ?_
        (repeat (go_big_quiet_step (fail)))
        refine wpQuiet_nil ?_
        rintro _ ⟨x2, rfl⟩
        go_wp2
        go_ret
        exact ⟨by rw [show sameC l l2 = false from same_not (k := k) (by omega) hq]; rfl, sk9⟩
      · have hq' : eqCx (nth cl0 l k).r (nth cl0 l k).g (nth cl0 l k).b (nth cl0 l k).a (nth cl0 l2 k).r (nth cl0 l2 k).g (nth cl0 l2 k).b (nth cl0 l2 k).a = true := hq
        go_wp2
        refine region_plus (by kernel_rfl) (by kernel_rfl) ?_
        (repeat (go_big_quiet_step (fail)))
        refine wpQuiet_nil ?_
        rintro _ ⟨x2, rfl⟩
        go_wp2
        go_roundw
        case rel => exact ⟨k + 1, by omega, by go_num, upto_succ9 hs hq, sk9⟩
        case measure => simp [intOf]; omega
    · have ik : ¬ (k : Int) < (n : Int) := by omega
      go_wp2
      go_ret
      exact ⟨by rw [show sameC l l2 = true from same_all (by omega) (fun j hj => hs j (by omega))]; rfl, sk9⟩

theorem equalC_is {ao ao2 : Option Addr} {n n2 cap cap2 : Nat} {l l2 : List Cl} {w : World} {b : Bool} (h : sameC l l2 = b) (hl : Lay fCl w ao n l) (hl2 : Lay fCl w ao2 n2 l2) (hn : n ≤ 9223372036854775807) (hn2 : n2 ≤ 9223372036854775807) :
    Calls Tryz.prog 111 #[.slice ao n cap, .slice ao2 n2 cap2] w fun e w' => e = .returned (.bool b) ∧ ∃ y, w' = plus w y := h ▸ equalC_calls ao ao2 n n2 cap cap2 l l2 w hl hl2 hn hn2

theorem sameT_w {W H W2 H2 : Int} {l l2 : List Cl} (h : ¬ W = W2) : sameT W H l W2 H2 l2 = false := by simp [sameT, h]

theorem sameT_h {W H W2 H2 : Int} {l l2 : List Cl} (h : ¬ H = H2) : sameT W H l W2 H2 l2 = false := by simp [sameT, h]

theorem sameT_l {W H : Int} {l l2 : List Cl} : sameT W H l W H l2 = sameC l l2 := by simp [sameT]

set_option maxHeartbeats 2000000 in
theorem tsame_calls (W H : Int) (ao : Option Addr) (n cap : Nat) (l : List Cl) (W2 H2 : Int) (ao2 : Option Addr) (n2 cap2 : Nat) (l2 : List Cl) (w : World) (hl : Lay fCl w ao n l) (hl2 : Lay fCl w ao2 n2 l2) (hn : n ≤ 9223372036854775807) (hn2 : n2 ≤ 9223372036854775807) :
    Calls Tryz.prog 60 #[.agg #[.int .i64 W, .int .i64 H, .slice ao n cap], .agg #[.int .i64 W2, .int .i64 H2, .slice ao2 n2 cap2]] w fun e w' => e = .returned (.bool (sameT W H l W2 H2 l2)) ∧ ∃ y, w' = plus w y := by
  by_cases hw : W = W2
  rotate_left
  · rw [sameT_w hw]
    have dq : (W == W2) = false := by rw [beq_eq_false_iff_ne]; exact hw
    go_enter Tryz.func60, Tryz.ntmps60
    go_wp2
    go_ret
    exact ⟨rfl, sk9⟩
  by_cases hh : H = H2
  rotate_left
  · rw [sameT_h hh]
    have dq : (H == H2) = false := by rw [beq_eq_false_iff_ne]; exact hh
    subst hw
    go_enter Tryz.func60, Tryz.ntmps60
    go_wp2
    go_ret
    exact ⟨rfl, sk9⟩
  subst hw hh
  rw [sameT_l]
  cases hq : sameC l l2
  all_goals
    go_enter Tryz.func60, Tryz.ntmps60
    go_wp2_with (go_at_call 111; refine (equalC_is hq (hl.ex sk9) (hl2.ex sk9) hn hn2).mono ?_; rintro e w' ⟨rfl, nx, rfl⟩)
    go_ret
    exact ⟨rfl, sk9⟩

theorem tsame_is {W H : Int} {ao : Option Addr} {n cap : Nat} {l : List Cl} {W2 H2 : Int} {ao2 : Option Addr} {n2 cap2 : Nat} {l2 : List Cl} {w : World} {b : Bool} (h : sameT W H l W2 H2 l2 = b) (hl : Lay fCl w ao n l) (hl2 : Lay fCl w ao2 n2 l2) (hn : n ≤ 9223372036854775807) (hn2 : n2 ≤ 9223372036854775807) :
    Calls Tryz.prog 60 #[.agg #[.int .i64 W, .int .i64 H, .slice ao n cap], .agg #[.int .i64 W2, .int .i64 H2, .slice ao2 n2 cap2]] w fun e w' => e = .returned (.bool b) ∧ ∃ y, w' = plus w y := h ▸ tsame_calls W H ao n cap l W2 H2 ao2 n2 cap2 l2 w hl hl2 hn hn2

end

section


open Go.RowKit Go.ChangeShapes Go.WideShapes Go.ChangeAt

set_option linter.unusedSimpArgs false

set_option linter.unusedVariables false

attribute [local go_sem] plus_size plus_drew dn_set dn_alloc dn_plus plus_dn cell_plus frozen_plus set_plus cell_alloc frozen_alloc set_alloc

def sameTp (a b : Tp) : Bool := sameT a.w a.h a.l b.w b.h b.l

def sameTps (l l2 : List Tp) : Bool := sameL sameTp tp0 l l2

end

section


open Go.RowKit Go.ChangeShapes Go.WideShapes Go.ChangeAt

set_option linter.unusedSimpArgs false

set_option linter.unusedVariables false

attribute [local go_sem] plus_size plus_drew dn_set dn_alloc dn_plus plus_dn cell_plus frozen_plus set_plus cell_alloc frozen_alloc set_alloc

attribute [local go_sem] eqarr_40 nearr_40 larr_40

attribute [local go_sem] eqarr_137 nearr_137 larr_137

attribute [local go_sem] isnil_47

attribute [local go_sem] isnil_57

attribute [local go_sem] isnil_58

attribute [local go_sem] isnil_59

set_option maxHeartbeats 4000000 in
theorem same_calls (va ua pa : Option Addr) (vn vc un uc pn pc : Nat) (hs : List PH) (xa ya za : Option Addr) (xn xc yn yc zn zc : Nat) (gs : List PH) (m o : Ms) (w : World) (hm : MeshAt w ⟨va, vn, vc, ua, un, uc, pa, pn, pc⟩ hs m) (hm2 : MeshAt w ⟨xa, xn, xc, ya, yn, yc, za, zn, zc⟩ gs o) (hf : FewM hs) (hg : FewM gs) (s1 : vn ≤ 1000) (s2 : un ≤ 1000) (s3 : pn ≤ 100) (s4 : xn ≤ 1000) (s5 : yn ≤ 1000) (s6 : zn ≤ 100) :
    Calls Tryz.prog 58 #[.agg #[.slice va vn vc, .slice ua un uc, .slice pa pn pc], .agg #[.slice xa xn xc, .slice ya yn yc, .slice za zn zc]] w fun e w' => e = .returned (.bool (sameMs m o)) ∧ Below w.heap.size w w' := by
  have hvl : Lay fV w va vn m.vs := hm.vl
  have hul : Lay f2 w ua un m.uv := hm.ul
  have hpl : Lay fP w pa pn hs := hm.pl
  have hpp : PrimsAt w hs m.ps := hm.pp
  have hxl : Lay fV w xa xn o.vs := hm2.vl
  have hyl : Lay f2 w ya yn o.uv := hm2.ul
  have hql : Lay fP w za zn gs := hm2.pl
  have hqq : PrimsAt w gs o.ps := hm2.pp
  have lv := hvl.len
  have lu := hul.len
  have lp := hpl.len
  have lpp := hpp.len
  have lx := hxl.len
  have ly := hyl.len
  have lq := hql.len
  have lqq := hqq.len
  cases h1 : sameV m.vs o.vs
  · rw [show sameMs m o = false by rw [sameMs, h1, Bool.false_and, Bool.false_and]]
    go_enter Tryz.func58, Tryz.ntmps58
    go_wp2_with (first | (go_at_call 107; refine (plus_post (equalV_calls _ _ _ _ _ _ m.vs o.vs _ (hvl.ex skM) (hxl.ex skM) (by omega) (by omega))).mono ?_; rintro e w' ⟨rfl, nx, rfl⟩; rw [h1]) | (go_at_call 108; refine (plus_post (equal2_calls _ _ _ _ _ _ m.uv o.uv _ (hul.ex skM) (hyl.ex skM) (by omega) (by omega))).mono ?_; rintro e w' ⟨rfl, nx, rfl⟩; rw [h2]) | (go_at_call 109; refine (plus_post (equalFunc_calls _ _ _ _ _ _ hs gs m.ps o.ps _ (hpl.ex skM) (hql.ex skM) (hpp.ex skM) (hqq.ex skM) hf hg (by omega) (by omega))).mono ?_; rintro e w' ⟨rfl, nx, rfl⟩; rw [h3]))
    go_ret
    exact ⟨rfl, by with_reducible repeat (first | exact Below.refl _ _ | apply ba | apply bp | apply bd | apply bn)⟩
  cases h2 : same2 m.uv o.uv
  · rw [show sameMs m o = false by rw [sameMs, h2, Bool.and_false, Bool.false_and]]
    go_enter Tryz.func58, Tryz.ntmps58
    go_wp2_with (first | (go_at_call 107; refine (plus_post (equalV_calls _ _ _ _ _ _ m.vs o.vs _ (hvl.ex skM) (hxl.ex skM) (by omega) (by omega))).mono ?_; rintro e w' ⟨rfl, nx, rfl⟩; rw [h1]) | (go_at_call 108; refine (plus_post (equal2_calls _ _ _ _ _ _ m.uv o.uv _ (hul.ex skM) (hyl.ex skM) (by omega) (by omega))).mono ?_; rintro e w' ⟨rfl, nx, rfl⟩; rw [h2]) | (go_at_call 109; refine (plus_post (equalFunc_calls _ _ _ _ _ _ hs gs m.ps o.ps _ (hpl.ex skM) (hql.ex skM) (hpp.ex skM) (hqq.ex skM) hf hg (by omega) (by omega))).mono ?_; rintro e w' ⟨rfl, nx, rfl⟩; rw [h3]))
    go_ret
    exact ⟨rfl, by with_reducible repeat (first | exact Below.refl _ _ | apply ba | apply bp | apply bd | apply bn)⟩
  cases h3 : samePs m.ps o.ps
  · rw [show sameMs m o = false by rw [sameMs, h3, Bool.and_false]]
    go_enter Tryz.func58, Tryz.ntmps58
    go_wp2_with (first | (go_at_call 107; refine (plus_post (equalV_calls _ _ _ _ _ _ m.vs o.vs _ (hvl.ex skM) (hxl.ex skM) (by omega) (by omega))).mono ?_; rintro e w' ⟨rfl, nx, rfl⟩; rw [h1]) | (go_at_call 108; refine (plus_post (equal2_calls _ _ _ _ _ _ m.uv o.uv _ (hul.ex skM) (hyl.ex skM) (by omega) (by omega))).mono ?_; rintro e w' ⟨rfl, nx, rfl⟩; rw [h2]) | (go_at_call 109; refine (plus_post (equalFunc_calls _ _ _ _ _ _ hs gs m.ps o.ps _ (hpl.ex skM) (hql.ex skM) (hpp.ex skM) (hqq.ex skM) hf hg (by omega) (by omega))).mono ?_; rintro e w' ⟨rfl, nx, rfl⟩; rw [h3]))
    go_ret
    exact ⟨rfl, by with_reducible repeat (first | exact Below.refl _ _ | apply ba | apply bp | apply bd | apply bn)⟩
  · rw [show sameMs m o = true by rw [sameMs, h1, h2, h3]; rfl]
    go_enter Tryz.func58, Tryz.ntmps58
    go_wp2_with (first | (go_at_call 107; refine (plus_post (equalV_calls _ _ _ _ _ _ m.vs o.vs _ (hvl.ex skM) (hxl.ex skM) (by omega) (by omega))).mono ?_; rintro e w' ⟨rfl, nx, rfl⟩; rw [h1]) | (go_at_call 108; refine (plus_post (equal2_calls _ _ _ _ _ _ m.uv o.uv _ (hul.ex skM) (hyl.ex skM) (by omega) (by omega))).mono ?_; rintro e w' ⟨rfl, nx, rfl⟩; rw [h2]) | (go_at_call 109; refine (plus_post (equalFunc_calls _ _ _ _ _ _ hs gs m.ps o.ps _ (hpl.ex skM) (hql.ex skM) (hpp.ex skM) (hqq.ex skM) hf hg (by omega) (by omega))).mono ?_; rintro e w' ⟨rfl, nx, rfl⟩; rw [h3]))
    go_ret
    exact ⟨rfl, by with_reducible repeat (first | exact Below.refl _ _ | apply ba | apply bp | apply bd | apply bn)⟩

end

section


open Go.RowKit Go.ChangeShapes Go.WideShapes Go.ChangeAt

set_option linter.unusedSimpArgs false

set_option linter.unusedVariables false

attribute [local go_sem] plus_size plus_drew dn_set dn_alloc dn_plus plus_dn cell_plus frozen_plus set_plus cell_alloc frozen_alloc set_alloc

theorem lay_part {α : Type} {f : α → List Value} {d : α} {w : World} {g off n k c : Nat} {l : List α} (hl : l.length = n) (hc : ∀ x, (f x).length = c) (h : ∀ j u, (l.flatMap f)[j]? = some u → w.cell? ⟨g, off + j, none⟩ = some u) (hk : k < n) :
    ∀ j v, (f (nth d l k))[j]? = some v → w.cell? ⟨g, off + k * c + j, none⟩ = some v := by
  intro j v hj
  have hjc : j < c := by rw [← hc (nth d l k)]; exact (List.getElem?_eq_some_iff.1 hj).1
  rw [Nat.add_assoc]
  exact cell_nth (d := d) hl hc h k j v hk hjc hj

def sameNds (l l2 : List Nd) : Bool := sameL sameNd nd0 l l2

def sameMss (l l2 : List Ms) : Bool := sameL sameMs ms0 l l2

def sameSc (a b : Sc) : Bool := sameG a.g b.g && (sameTps a.ts b.ts && (decide (a.root = b.root) && (sameNds a.ns b.ns && sameMss a.ms b.ms)))

/-- the lists of a scene are not too great -/
structure Small (x : SX) : Prop where
  n : ∀ k, k < x.nh.length → (nth nh0 x.nh k).n ≤ 10000
  m : ∀ k, k < x.mh.length → (nth mh0 x.mh k).vn ≤ 1000 ∧ (nth mh0 x.mh k).un ≤ 1000 ∧ (nth mh0 x.mh k).pn ≤ 100 ∧ FewM (nth [] x.ph k)

end

end Go.Proofs.YtcekcihijdipoaaGreat
