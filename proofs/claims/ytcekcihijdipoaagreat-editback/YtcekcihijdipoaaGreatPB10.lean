/- A pack of texts: EdOwn, EdEqN, EdEqM, EdEqT, Arena6, Arena7, Arena8. -/
import Derived.Deep.DeepCutAuto
import Derived.Test.YtcekcihijdipoaaGreatPB8
import Derived.Test.YtcekcihijdipoaaGreatPB9
import Derived.Test.YtcekcihijdipoaaGreatPB7
import Derived.Test.YtcekcihijdipoaaGreatPB4
namespace Go.Proofs.YtcekcihijdipoaaGreat

section


open Go.RowKit

/-- the numbers of a mesh, a texture that are a byte are one -/
def PsB (m : Ms) : Prop := ∀ k, k < m.ps.length → 0 ≤ (nth dPr m.ps k).kind ∧ (nth dPr m.ps k).kind ≤ 255

def ClsB (l : List Cl) : Prop := ∀ k, k < l.length → ClB (nth cl0 l k)

/-- how great a thing's lists are -/
def FewNd (n : Nd) : Prop := n.far.length ≤ 10000

def FewMs (m : Ms) : Prop := m.vs.length ≤ 1000 ∧ m.uv.length ≤ 1000 ∧ m.ps.length ≤ 100 ∧ ∀ k, k < m.ps.length → (nth dPr m.ps k).ix.length ≤ 1000

def FewTp (t : Tp) : Prop := t.l.length ≤ 20000

structure FewSc (s : Sc) : Prop where
  sl : s.g.sl.length ≤ 1000
  ks : s.g.ks.length ≤ 1000
  row : ∀ k, k < s.g.ks.length → (nth [] s.g.ks k).length ≤ 1000
  nn : s.ns.length ≤ 1000
  mn : s.ms.length ≤ 1000
  tn : s.ts.length ≤ 1000
  ns : ∀ k, k < s.ns.length → FewNd (nth nd0 s.ns k)
  ms : ∀ k, k < s.ms.length → FewMs (nth ms0 s.ms k)
  ts : ∀ k, k < s.ts.length → FewTp (nth tp0 s.ts k)

/-- a texture in memory newer than T -/
structure TexOwn (T w : World) (h : TH) (t : Tp) : Prop where
  we : h.w = t.w
  he : h.h = t.h
  tx : Own 50 4 fCl T w h.ao h.n h.cap t.l
  ok : ClsB t.l

structure MeshOwn (T w : World) (h : MH) (hs : List PH) (m : Ms) : Prop where
  t : TwinAt T w h hs m
  b : PsB m

section

variable {T T' w w' : World} {g : Nat} {cur cs : Array Value} {e' : TypeId}

theorem TexOwn.ex {h : TH} {t : Tp} (a : TexOwn T w h t) (hw : ∃ y, w' = plus w y) : TexOwn T w' h t := ⟨a.we, a.he, a.tx.ex hw, a.ok⟩

theorem TexOwn.base {h : TH} {t : Tp} (a : TexOwn T w h t) (hT : T'.heap.size ≤ T.heap.size) : TexOwn T' w h t := ⟨a.we, a.he, a.tx.base hT, a.ok⟩

theorem TexOwn.row_other {h : TH} {t : Tp} (a : TexOwn T w h t) (hb : w.heap[g]? = some (.cells cur e')) (he : e' ≠ 50) : TexOwn T (w.setRow g cs) h t := ⟨a.we, a.he, a.tx.row_other hb he, a.ok⟩

theorem TwinAt.ex {h : MH} {hs : List PH} {m : Ms} (a : TwinAt T w h hs m) (hw : ∃ y, w' = plus w y) : TwinAt T w' h hs m := ⟨a.v.ex hw, a.u.ex hw, a.p.ex hw, a.len, a.kind, fun k hk => (a.ix k hk).ex hw⟩

theorem TwinAt.base {h : MH} {hs : List PH} {m : Ms} (a : TwinAt T w h hs m) (hT : T'.heap.size ≤ T.heap.size) : TwinAt T' w h hs m := ⟨a.v.base hT, a.u.base hT, a.p.base hT, a.len, a.kind, fun k hk => (a.ix k hk).base hT⟩

theorem TwinAt.row_other {h : MH} {hs : List PH} {m : Ms} (a : TwinAt T w h hs m) (hb : w.heap[g]? = some (.cells cur e')) (h1 : e' ≠ 43) (h2 : e' ≠ 137) (h3 : e' ≠ 131) (h4 : e' ≠ 3) : TwinAt T (w.setRow g cs) h hs m :=
  ⟨a.v.row_other hb h1, a.u.row_other hb h2, a.p.row_other hb h3, a.len, a.kind, fun k hk => (a.ix k hk).row_other hb h4⟩

theorem MeshOwn.ex {h : MH} {hs : List PH} {m : Ms} (a : MeshOwn T w h hs m) (hw : ∃ y, w' = plus w y) : MeshOwn T w' h hs m := ⟨a.t.ex hw, a.b⟩

theorem MeshOwn.base {h : MH} {hs : List PH} {m : Ms} (a : MeshOwn T w h hs m) (hT : T'.heap.size ≤ T.heap.size) : MeshOwn T' w h hs m := ⟨a.t.base hT, a.b⟩

theorem MeshOwn.row_other {h : MH} {hs : List PH} {m : Ms} (a : MeshOwn T w h hs m) (hb : w.heap[g]? = some (.cells cur e')) (h1 : e' ≠ 43) (h2 : e' ≠ 137) (h3 : e' ≠ 131) (h4 : e' ≠ 3) : MeshOwn T (w.setRow g cs) h hs m := ⟨a.t.row_other hb h1 h2 h3 h4, a.b⟩

theorem NodeOwn.row_other {h : NH} {n : Nd} (a : NodeOwn T w h n) (hb : w.heap[g]? = some (.cells cur e')) (he : e' ≠ 3) : NodeOwn T (w.setRow g cs) h n := ⟨a.f, a.b, a.far.row_other hb he⟩

theorem NodeOwn.at {h : NH} {n : Nd} (a : NodeOwn T w h n) (hf : FewNd n) : NodeAt w h n := by
  have := a.far.1
  unfold FewNd at hf
  exact ⟨a.f, a.b, by omega, a.far.cap_le, a.far.none_zero, a.far.lay⟩

theorem MeshOwn.at {h : MH} {hs : List PH} {m : Ms} (a : MeshOwn T w h hs m) (hf : FewMs m) : MeshAt w h hs m := by
  have h1 := a.t.v.1
  have h2 := a.t.u.1
  have h3 := a.t.p.1
  have h4 := a.t.len
  obtain ⟨f1, f2, f3, f4⟩ := hf
  refine ⟨by omega, by omega, by omega, a.t.v.none_zero, a.t.u.none_zero, a.t.p.none_zero, a.t.v.lay, a.t.u.lay, a.t.p.lay, a.t.len, fun k hk => ?_⟩
  have h5 := (a.t.ix k hk).1
  have h6 := f4 k (by omega)
  have h7 := a.b k (by omega)
  exact ⟨a.t.kind k hk, h7.1, h7.2, by omega, (a.t.ix k hk).none_zero, (a.t.ix k hk).lay⟩

theorem TexOwn.at {h : TH} {t : Tp} (a : TexOwn T w h t) (hf : FewTp t) : TexAt w h t := by
  have := a.tx.1
  unfold FewTp at hf
  exact ⟨a.we, a.he, ⟨by omega, a.tx.none_zero, a.tx.lay, fun k hk => a.ok k (by omega)⟩⟩

end

/-- a scene in memory newer than T -/
structure ScOwn (T w : World) (h : SH) (x : SX) (s : Sc) : Prop where
  g : GrOwn T w h.ga h.gn h.gc h.ka h.kn h.kc x.gr s.g
  nl : Own 56 33 fN T w h.na h.nn h.nc x.nh
  nlen : x.nh.length = s.ns.length
  ns : ∀ k, k < x.nh.length → NodeOwn T w (nth nh0 x.nh k) (nth nd0 s.ns k)
  ml : Own 61 3 fMh T w h.ma h.mn h.mc x.mh
  mlen : x.mh.length = s.ms.length
  ms : ∀ k, k < x.mh.length → MeshOwn T w (nth mh0 x.mh k) (nth [] x.ph k) (nth ms0 s.ms k)
  tl : Own 64 3 fTh T w h.ta h.tn h.tc x.th
  tlen : x.th.length = s.ts.length
  ts : ∀ k, k < x.th.length → TexOwn T w (nth th0 x.th k) (nth tp0 s.ts k)
  root : s.root = (h.r0, h.r1)
  pl : x.ph.length = x.mh.length

/-- a scene that is not too great lies in w -/
structure ScAt (w : World) (h : SH) (x : SX) (s : Sc) : Prop where
  g : GrAt w h.ga h.gn h.ka h.kn x.gr s.g
  r : RestAt w h x s
  f : FewSc s

section

variable {T T' w w' : World} {h : SH} {x : SX} {s : Sc}

theorem ScOwn.ex (a : ScOwn T w h x s) (hw : ∃ y, w' = plus w y) : ScOwn T w' h x s :=
  ⟨a.g.ex hw, a.nl.ex hw, a.nlen, fun k hk => (a.ns k hk).ex hw, a.ml.ex hw, a.mlen, fun k hk => (a.ms k hk).ex hw, a.tl.ex hw, a.tlen, fun k hk => (a.ts k hk).ex hw, a.root, a.pl⟩

theorem ScOwn.base (a : ScOwn T w h x s) (hT : T'.heap.size ≤ T.heap.size) : ScOwn T' w h x s :=
  ⟨a.g.base hT, a.nl.base hT, a.nlen, fun k hk => (a.ns k hk).base hT, a.ml.base hT, a.mlen, fun k hk => (a.ms k hk).base hT, a.tl.base hT, a.tlen, fun k hk => (a.ts k hk).base hT, a.root, a.pl⟩

theorem ScOwn.at (a : ScOwn T w h x s) (f : FewSc s) : ScAt w h x s := by
  have g1 := a.g.sl.1
  have g2 := a.g.kl
  have n1 := a.nl.1
  have m1 := a.ml.1
  have t1 := a.tl.1
  have n2 := a.nlen
  have m2 := a.mlen
  have t2 := a.tlen
  have f1 := f.sl
  have f2 := f.ks
  have f4 := f.nn
  have f5 := f.mn
  have f6 := f.tn
  refine ⟨a.g.at (by omega) (by omega) f.row, ⟨a.nl.lay, ⟨a.nlen, fun k hk => (a.ns k hk).at (f.ns k (by omega))⟩, a.ml.lay, ⟨a.mlen, fun k hk => (a.ms k hk).at (f.ms k (by omega))⟩, a.tl.lay, ⟨a.tlen, fun k hk => (a.ts k hk).at (f.ts k (by omega))⟩, by omega, by omega, by omega, a.root⟩, f⟩

theorem ScAt.ex (a : ScAt w h x s) (hw : ∃ y, w' = plus w y) : ScAt w' h x s := ⟨a.g.ex hw, a.r.ex hw, a.f⟩

theorem ScAt.small (a : ScAt w h x s) : Small x := by
  refine ⟨fun k hk => ?_, fun k hk => ?_⟩
  · have h1 := a.r.ns.len
    have h2 := (a.r.ns.one k hk).lay.len
    have h3 := a.f.ns k (by omega)
    unfold FewNd at h3
    omega
  · have h1 := a.r.ms.len
    have h2 := a.r.ms.one k hk
    obtain ⟨f1, f2, f3, f4⟩ := a.f.ms k (by omega)
    have v := h2.vl.len
    have u := h2.ul.len
    have p := h2.pl.len
    have q := h2.pp.len
    refine ⟨by omega, by omega, by omega, fun j hj => ?_⟩
    have h3 := (h2.pp.one j hj).lay.len
    have h4 := f4 j (by omega)
    omega

theorem ScAt.nn (a : ScAt w h x s) : s.ns.length = h.nn ∧ x.nh.length = h.nn := ⟨a.r.ns.len ▸ a.r.nl.len, a.r.nl.len⟩

theorem ScAt.mn (a : ScAt w h x s) : s.ms.length = h.mn ∧ x.mh.length = h.mn := ⟨a.r.ms.len ▸ a.r.ml.len, a.r.ml.len⟩

theorem ScAt.tn (a : ScAt w h x s) : s.ts.length = h.tn ∧ x.th.length = h.tn := ⟨a.r.ts.len ▸ a.r.tl.len, a.r.tl.len⟩

end

theorem ps_at {m : Ms} (h : msOk m = true) {k : Nat} (hk : k < m.ps.length) : (nth dPr m.ps k).ix.length ≤ 200 := by
  simp only [msOk, psOk, Bool.and_eq_true, List.all_eq_true] at h
  have h1 := h.2.1 _ (nth_mem (d := dPr) hk)
  simp only [pOk, Bool.and_eq_true, decide_eq_true_eq] at h1
  have h2 := h1.1
  unfold prErr at h2
  split at h2
  · cases h2
  split at h2
  · cases h2
  · omega

theorem few_msErr {m : Ms} (h : msErr m = 0) : FewMs m := by
  unfold msErr at h
  split at h
  · cases h
  · rename_i h1
    split at h
    · rename_i h2
      refine ⟨by omega, by omega, by omega, fun k hk => ?_⟩
      have := ps_at h2 hk
      omega
    · cases h

theorem few_tex {t : Tp} (h : mayTp t = true) : FewTp t := by
  unfold mayTp mayT at h
  simp only [Bool.and_eq_true, decide_eq_true_eq, side_iff] at h
  obtain ⟨h1, h2, h3⟩ := h
  have : t.w * t.h ≤ 16 * 16 := Int.mul_le_mul h1.2 h2.2 (by omega) (by omega)
  unfold FewTp
  omega

theorem few_node {a b : Nat} {n : Nd} (h : mayNd a b n = true) : FewNd n := by
  unfold FewNd
  simp only [mayNd, Bool.and_eq_true] at h
  obtain ⟨h1, h2, h3, h4, h5, h6, h7⟩ := h
  split at h7
  · rename_i e5
    simp only [Bool.or_eq_true, Bool.and_eq_true, decide_eq_true_eq] at h6
    rcases h6 with h6 | h6
    · omega
    · omega
  · simp only [Bool.and_eq_true, distOk, decide_eq_true_eq] at h7
    omega

theorem few_may {s : Sc} (h : maySc s = true) : FewSc s := by
  obtain ⟨hg, hl, hst, hn, hr⟩ := may_parts h
  obtain ⟨g1, g2, g3, g4⟩ := gr_parts hg
  obtain ⟨m1, m2, m3, m4⟩ := stores_parts hst
  have ha := arOk_len g1
  refine ⟨by omega, by omega, fun k hk => ?_, by omega, by omega, by omega, fun k hk => ?_, fun k hk => few_msErr (m1 _ (nth_mem hk)), fun k hk => few_tex (m2 _ (nth_mem hk))⟩
  · have := (rows_at g3 hk).1
    omega
  · have hk2 := node_ok.1 (hn k hk)
    cases hv : (nth dSl s.g.sl k).live
    · rw [hk2.2.1 hv]
      exact Nat.zero_le _
    · exact few_node (hk2.1 hv)

end

section


open Go.RowKit Go.ChangeShapes Go.WideShapes Go.ChangeAt

set_option linter.unusedSimpArgs false

set_option linter.unusedVariables false

attribute [local go_sem] plus_size plus_drew dn_set dn_alloc dn_plus plus_dn cell_plus frozen_plus set_plus cell_alloc frozen_alloc set_alloc

end

section


open Go.RowKit Go.ChangeShapes Go.WideShapes Go.ChangeAt

set_option linter.unusedSimpArgs false

set_option linter.unusedVariables false

attribute [local go_sem] plus_size plus_drew dn_set dn_alloc dn_plus plus_dn cell_plus frozen_plus set_plus cell_alloc frozen_alloc set_alloc

end

section


open Go.RowKit Go.ChangeShapes Go.WideShapes Go.ChangeAt

set_option linter.unusedSimpArgs false

set_option linter.unusedVariables false

attribute [local go_sem] plus_size plus_drew dn_set dn_alloc dn_plus plus_dn cell_plus frozen_plus set_plus cell_alloc frozen_alloc set_alloc

end

section


open Go.RowKit Go.ChangeShapes Go.WideShapes Go.ChangeAt

set_option linter.unusedSimpArgs false

set_option linter.unusedVariables false

attribute [local go_sem] plus_size plus_drew dn_set dn_alloc dn_plus plus_dn cell_plus frozen_plus set_plus cell_alloc frozen_alloc set_alloc

set_option maxHeartbeats 2000000 in
theorem lcheck_calls (ao : Option Addr) (n cap : Nat) (l : List Sl) (w : World) (hl : Lay fS w ao n l) (hn : n ≤ 9223372036854775807) :
    Calls Tryz.prog 128 #[.agg #[.slice ao n cap]] w fun e w' => e = .returned (.int .i64 (allErr l)) ∧ Below w.heap.size w w' := by
  have hlen := hl.len
  by_cases h3 : n ≤ 128
  rotate_left
  · have i3 : (128 : Int) < (n : Int) := by omega
    have hno : allErr l = 8 := by rw [allErr, if_neg]; simp [arOk]; omega
    rw [hno]
    go_enter Tryz.func128, Tryz.ntmps128
    go_wp2
    go_ret
    exact ⟨rfl, by with_reducible repeat (first | exact Below.refl _ _ | apply ba | apply bp | apply bd | apply bn)⟩
  have i3 : ¬ (128 : Int) < (n : Int) := by omega
  have d3 := decide_eq_false i3
  go_enter Tryz.func128, Tryz.ntmps128
  go_wp2
  go_loopw [12] (fun i wr => ∃ k : Nat, k ≤ n ∧ i = .int .i64 k ∧ (∀ j, j < k → slOk (nth dSl l j) = true) ∧ ∃ x, wr = plus (w.alloc (.cells #[.slice ao n cap] 24)) x) (fun i _ => n - (intOf i).toNat)
  case atStart => exact ⟨0, Nat.zero_le _, rfl, fun j hj => by omega, (by with_reducible repeat (first | exact ex_refl _ | exact ex_more | apply ex_alloc | apply ex_plus | apply ex_drew | apply ex_drewN))⟩
  case round =>
    obtain ⟨k, hk, rfl, hs, x, rfl⟩ := hrel
    by_cases hkl : k < n
    · obtain ⟨g, off, rfl, hg, hcell⟩ := hl.some (by omega)
      obtain ⟨c0, c1⟩ := cellS hlen hcell hkl
      have ik : (k : Int) < (n : Int) := by omega
      by_cases h1 : (nth dSl l k).gen < 1
      · have hno : arOk l = false := by rw [arOk, all_bad (d := dSl) (k := k) (by omega) (by simp [slOk]; omega), Bool.false_and]
        go_wp2
        go_ret
        exact ⟨by rw [allErr, hno]; rfl, by with_reducible repeat (first | exact Below.refl _ _ | apply ba | apply bp | apply bd | apply bn)⟩
      have d1 := decide_eq_false h1
      by_cases h2 : 1073741824 < (nth dSl l k).gen
      · have hno : arOk l = false := by rw [arOk, all_bad (d := dSl) (k := k) (by omega) (by simp [slOk]; omega), Bool.false_and]
        go_wp2
        go_ret
        exact ⟨by rw [allErr, hno]; rfl, by with_reducible repeat (first | exact Below.refl _ _ | apply ba | apply bp | apply bd | apply bn)⟩
      · have d2 := decide_eq_false h2
        have hok : slOk (nth dSl l k) = true := by simp [slOk]; omega
        go_wp2
        go_roundw
        case rel => exact ⟨k + 1, by omega, by go_num, upto_succ hs hok, (by with_reducible repeat (first | exact ex_refl _ | exact ex_more | apply ex_alloc | apply ex_plus | apply ex_drew | apply ex_drewN))⟩
        case measure => simp [intOf]; omega
    · have ik : ¬ (k : Int) < (n : Int) := by omega
      have hall : l.all slOk = true := all_yes (d := dSl) (fun j hj => hs j (by omega))
      go_wp2
      go_ret
      exact ⟨by rw [allErr, arOk, hall, hlen, decide_eq_true h3]; rfl, by with_reducible repeat (first | exact Below.refl _ _ | apply ba | apply bp | apply bd | apply bn)⟩

theorem lslotOf_calls (s g : Int) (w : World) : Calls Tryz.prog 168 #[.agg #[.int .i64 s, .int .i64 g]] w fun e w' => e = .returned (.agg #[.int .i64 g, .bool true]) ∧ Below w.heap.size w w' := by
  go_enter Tryz.func168, Tryz.ntmps168
  go_wp2
  exact bodyPost_ret (v := .agg #[.int .i64 g, .bool true]) (by simp [results, Tryz.results168, go_sem, ↓IntWalk.iteOmega]) rfl ⟨rfl, by with_reducible repeat (first | exact Below.refl _ _ | apply ba | apply bp | apply bd | apply bn)⟩

set_option maxRecDepth 100000 in
set_option maxHeartbeats 2000000 in
theorem lheld_calls (ao : Option Addr) (n cap : Nat) (l : List Sl) (s g : Int) (w : World) (hl : Lay fS w ao n l) (hn : n ≤ 9223372036854775807) :
    Calls Tryz.prog 129 #[.agg #[.slice ao n cap], .agg #[.int .i64 s, .int .i64 g]] w fun e w' => e = .returned (.bool (heldIn l s g)) ∧ Below w.heap.size w w' := by
  have hlen := hl.len
  by_cases h0 : 0 ≤ s
  rotate_left
  · rw [show heldIn l s g = false by simp [heldIn, h0]]
    have d0 : decide (0 ≤ s) = false := decide_eq_false h0
    go_enter Tryz.func129, Tryz.ntmps129
    go_wp2
    refine region_plus (by kernel_rfl) (by kernel_rfl) ?_
    (repeat (go_big_quiet_step ((go_at_call 168; exact plus_of (lslotOf_calls _ _ _)))))
    refine wpQuiet_nil ?_
    rintro _ ⟨x2, rfl⟩
    go_wp2
    go_ret
    exact ⟨rfl, by with_reducible repeat (first | exact Below.refl _ _ | apply ba | apply bp | apply bd | apply bn)⟩
  by_cases h1 : s < n
  rotate_left
  · rw [show heldIn l s g = false by simp [heldIn, hlen, h1]]
    have d1 : decide (s < (n : Int)) = false := decide_eq_false h1
    go_enter Tryz.func129, Tryz.ntmps129
    go_wp2
    refine region_plus (by kernel_rfl) (by kernel_rfl) ?_
    (repeat (go_big_quiet_step ((go_at_call 168; exact plus_of (lslotOf_calls _ _ _)))))
    refine wpQuiet_nil ?_
    rintro _ ⟨x2, rfl⟩
    go_wp2
    go_ret
    exact ⟨rfl, by with_reducible repeat (first | exact Below.refl _ _ | apply ba | apply bp | apply bd | apply bn)⟩
  obtain ⟨k, rfl⟩ : ∃ k : Nat, s = (k : Int) := ⟨s.toNat, by omega⟩
  obtain ⟨gm, off, rfl, hg, hcell⟩ := hl.some (by omega)
  obtain ⟨c0, c1⟩ := cellS hlen hcell (k := k) (by omega)
  by_cases h3 : (nth dSl l k).gen = g
  rotate_left
  · rw [show heldIn l k g = false by simp [heldIn, h3]]
    have d3 : ((nth dSl l k).gen == g) = false := by rw [beq_eq_false_iff_ne]; exact h3
    go_enter Tryz.func129, Tryz.ntmps129
    go_wp2
    refine region_plus (by kernel_rfl) (by kernel_rfl) ?_
    (repeat (go_big_quiet_step ((go_at_call 168; exact plus_of (lslotOf_calls _ _ _)))))
    refine wpQuiet_nil ?_
    rintro _ ⟨x2, rfl⟩
    go_wp2
    go_ret
    exact ⟨rfl, by with_reducible repeat (first | exact Below.refl _ _ | apply ba | apply bp | apply bd | apply bn)⟩
  cases h2 : (nth dSl l k).live
  · rw [show heldIn l k g = false by simp [heldIn, h2]]
    go_enter Tryz.func129, Tryz.ntmps129
    go_wp2
    refine region_plus (by kernel_rfl) (by kernel_rfl) ?_
    (repeat (go_big_quiet_step ((go_at_call 168; exact plus_of (lslotOf_calls _ _ _)))))
    refine wpQuiet_nil ?_
    rintro _ ⟨x2, rfl⟩
    go_wp2
    go_ret
    exact ⟨rfl, by with_reducible repeat (first | exact Below.refl _ _ | apply ba | apply bp | apply bd | apply bn)⟩
  · rw [show heldIn l k g = true by rw [held_spec, Int.toNat_natCast, hlen]; exact ⟨⟨h0, h1⟩, h2, h3⟩]
    go_enter Tryz.func129, Tryz.ntmps129
    go_wp2
    refine region_plus (by kernel_rfl) (by kernel_rfl) ?_
    (repeat (go_big_quiet_step ((go_at_call 168; exact plus_of (lslotOf_calls _ _ _)))))
    refine wpQuiet_nil ?_
    rintro _ ⟨x2, rfl⟩
    go_wp2
    go_ret
    exact ⟨rfl, by with_reducible repeat (first | exact Below.refl _ _ | apply ba | apply bp | apply bd | apply bn)⟩

theorem lholds_calls (ao : Option Addr) (n cap : Nat) (l : List Sl) (s g : Int) (w : World) (hl : Lay fS w ao n l) (hn : n ≤ 9223372036854775807) :
    Calls Tryz.prog 79 #[.agg #[.slice ao n cap], .agg #[.int .i64 s, .int .i64 g]] w fun e w' => e = .returned (.bool (holds l s g)) ∧ Below w.heap.size w w' := by
  cases ho : arOk l
  · rw [show holds l s g = false by rw [holds, ho, Bool.false_and]]
    have he : allErr l = 8 := by rw [allErr, ho]; rfl
    go_enter Tryz.func79, Tryz.ntmps79
    go_wp2_with (first | (go_at_call 128; refine (plus_post (lcheck_calls _ _ _ l _ (hl.ex (by with_reducible repeat (first | exact ex_refl _ | exact ex_more | apply ex_alloc | apply ex_plus | apply ex_drew | apply ex_drewN))) (by omega))).mono ?_; rintro e w' ⟨rfl, nx, rfl⟩; rw [he]) | (go_at_call 129; refine (plus_post (lheld_calls _ _ _ l _ _ _ (hl.ex (by with_reducible repeat (first | exact ex_refl _ | exact ex_more | apply ex_alloc | apply ex_plus | apply ex_drew | apply ex_drewN))) (by omega))).mono ?_; rintro e w' ⟨rfl, nx, rfl⟩))
    go_ret
    exact ⟨rfl, by with_reducible repeat (first | exact Below.refl _ _ | apply ba | apply bp | apply bd | apply bn)⟩
  · rw [show holds l s g = heldIn l s g by rw [holds, ho, Bool.true_and]]
    have he : allErr l = 0 := by rw [allErr, ho]; rfl
    go_enter Tryz.func79, Tryz.ntmps79
    go_wp2_with (first | (go_at_call 128; refine (plus_post (lcheck_calls _ _ _ l _ (hl.ex (by with_reducible repeat (first | exact ex_refl _ | exact ex_more | apply ex_alloc | apply ex_plus | apply ex_drew | apply ex_drewN))) (by omega))).mono ?_; rintro e w' ⟨rfl, nx, rfl⟩; rw [he]) | (go_at_call 129; refine (plus_post (lheld_calls _ _ _ l _ _ _ (hl.ex (by with_reducible repeat (first | exact ex_refl _ | exact ex_more | apply ex_alloc | apply ex_plus | apply ex_drew | apply ex_drewN))) (by omega))).mono ?_; rintro e w' ⟨rfl, nx, rfl⟩))
    go_ret
    exact ⟨rfl, by with_reducible repeat (first | exact Below.refl _ _ | apply ba | apply bp | apply bd | apply bn)⟩

end

section


open Go.RowKit Go.ChangeShapes Go.WideShapes Go.ChangeAt

set_option linter.unusedSimpArgs false

set_option linter.unusedVariables false

attribute [local go_sem] plus_size plus_drew dn_set dn_alloc dn_plus plus_dn cell_plus frozen_plus set_plus cell_alloc frozen_alloc set_alloc

theorem lfree_calls (ao : Option Addr) (n cap k : Nat) (l : List Sl) (w : World) (hl : Lay fS w ao n l) (hk : k < n) :
    Calls Tryz.prog 178 #[.slice ao n cap, .int .i64 k] w fun e w' => e = .returned (.bool (freeS (nth dSl l k))) ∧ Below w.heap.size w w' := by
  obtain ⟨g, off, rfl, hg, hcell⟩ := hl.some (by omega)
  obtain ⟨c0, c1⟩ := cellS hl.len hcell hk
  have ik : (k : Int) < (n : Int) := by omega
  cases hv : (nth dSl l k).live
  rotate_left
  · rw [show freeS (nth dSl l k) = false by simp [freeS, hv]]
    rw [hv] at c1
    go_enter Tryz.func178, Tryz.ntmps178
    go_wp2
    go_ret
    exact ⟨rfl, by with_reducible repeat (first | exact Below.refl _ _ | apply ba | apply bp | apply bd | apply bn)⟩
  rw [hv] at c1
  by_cases h2 : (nth dSl l k).gen < 1073741824
  · rw [show freeS (nth dSl l k) = true by simp [freeS, hv, h2]]
    go_enter Tryz.func178, Tryz.ntmps178
    go_wp2
    go_ret
    exact ⟨rfl, by with_reducible repeat (first | exact Below.refl _ _ | apply ba | apply bp | apply bd | apply bn)⟩
  · rw [show freeS (nth dSl l k) = false by simp [freeS, h2]]
    have d2 := decide_eq_false h2
    go_enter Tryz.func178, Tryz.ntmps178
    go_wp2
    go_ret
    exact ⟨rfl, by with_reducible repeat (first | exact Below.refl _ _ | apply ba | apply bp | apply bd | apply bn)⟩

set_option maxHeartbeats 2000000 in
theorem lfirst_calls (ao : Option Addr) (n cap : Nat) (l : List Sl) (w : World) (hl : Lay fS w ao n l) (hn : n ≤ 10000) :
    Calls Tryz.prog 177 #[.func (.func 178) #[.slice ao n cap] #[], .int .i64 n] w fun e w' => e = .returned (.int .i64 (freeAt l)) ∧ Below w.heap.size w w' := by
  have hlen := hl.len
  go_enter Tryz.func177, Tryz.ntmps177
  go_wp2
  go_loopw [7] (fun i wr => ∃ k : Nat, k ≤ n ∧ i = .int .i64 k ∧ (∀ j, j < k → freeS (nth dSl l j) = false) ∧ ∃ x, wr = plus w x) (fun i _ => n - (intOf i).toNat)
  case atStart => exact ⟨0, Nat.zero_le _, rfl, fun j hj => by omega, (by with_reducible repeat (first | exact ex_refl _ | exact ex_more | apply ex_alloc | apply ex_plus | apply ex_drew | apply ex_drewN))⟩
  case round =>
    obtain ⟨k, hk, rfl, hs, x, rfl⟩ := hrel
    by_cases hkl : k < n
    · have ik : (k : Int) < (n : Int) := by omega
      cases hf : freeS (nth dSl l k)
      · go_wp2_with (go_at_call 178; refine (plus_post (lfree_calls _ _ _ _ l _ (hl.ex (by with_reducible repeat (first | exact ex_refl _ | exact ex_more | apply ex_alloc | apply ex_plus | apply ex_drew | apply ex_drewN))) hkl)).mono ?_; rintro e w' ⟨rfl, nx, rfl⟩; rw [hf])
        go_roundw
        case rel => exact ⟨k + 1, by omega, by go_num, upto_succ hs hf, (by with_reducible repeat (first | exact ex_refl _ | exact ex_more | apply ex_alloc | apply ex_plus | apply ex_drew | apply ex_drewN))⟩
        case measure => simp [intOf]; omega
      · have hfa : freeAt l = k := freeAt_is (by omega) hs (fun _ => hf)
        go_wp2_with (go_at_call 178; refine (plus_post (lfree_calls _ _ _ _ l _ (hl.ex (by with_reducible repeat (first | exact ex_refl _ | exact ex_more | apply ex_alloc | apply ex_plus | apply ex_drew | apply ex_drewN))) hkl)).mono ?_; rintro e w' ⟨rfl, nx, rfl⟩; rw [hf])
        go_ret
        exact ⟨by first | rfl | (rw [hfa]; rfl), by with_reducible repeat (first | exact Below.refl _ _ | apply ba | apply bp | apply bd | apply bn)⟩
    · have ik : ¬ (k : Int) < (n : Int) := by omega
      have hfa : freeAt l = n := freeAt_is (by omega) (fun j hj => hs j (by omega)) (fun h => by omega)
      go_wp2
      go_ret
      exact ⟨by first | rfl | (rw [hfa]; rfl), by with_reducible repeat (first | exact Below.refl _ _ | apply ba | apply bp | apply bd | apply bn)⟩

theorem ltwin_calls (ao : Option Addr) (n cap : Nat) (l : List Sl) (w : World) (hl : Lay fS w ao n l) (hn : n ≤ 10000) :
    Calls Tryz.prog 81 #[.agg #[.slice ao n cap]] w fun e w' => ∃ ao' cap', e = .returned (.agg #[.slice ao' n cap']) ∧ (∃ y, w' = plus w y) ∧ Own 86 2 fS w w' ao' n cap' l := by
  have hlen := hl.len
  obtain ⟨cur, hcur, hmk⟩ := run_make_lay kinS.info kinS.und n (by omega) (by decide)
  have hcp := run_copy_new (W := ((w.alloc (.cells #[.slice ao n cap] 24))).alloc (.cells #[.slice none 0 0] 24)) (g := w.heap.size + 1 + 1) (cap := n) (c2 := cap) (t2 := 22) (ty := 3) (ob := .cells #[.slice (some ⟨w.heap.size + 1 + 1, 0, none⟩) n n] 24) kinS fS_c fS_1 (by simp [go_sem]) (hl.ex (by with_reducible repeat (first | exact ex_refl _ | exact ex_more | apply ex_alloc | apply ex_plus | apply ex_drew | apply ex_drewN))) hcur
  go_enter Tryz.func81, Tryz.ntmps81
  go_wp2
  exact bodyPost_ret (v := .agg #[.slice (some ⟨w.heap.size + 1 + 1, 0, none⟩) n n]) (by simp [results, Tryz.results81, go_sem, ↓IntWalk.iteOmega]) rfl ⟨some ⟨w.heap.size + 1 + 1, 0, none⟩, n, rfl, (by with_reducible repeat (first | exact ex_refl _ | exact ex_more | apply ex_alloc | apply ex_plus | apply ex_drew | apply ex_drewN)), own_row hlen fS_c (by rw [blk_alloc, if_neg (by simp), blk_alloc, if_pos (by simp)]) (by omega) (by unfold maxLen; omega)⟩

end

section


open Go.RowKit Go.ChangeShapes Go.WideShapes Go.ChangeAt

set_option linter.unusedSimpArgs false

set_option linter.unusedVariables false

attribute [local go_sem] plus_size plus_drew dn_set dn_alloc dn_plus plus_dn cell_plus frozen_plus set_plus cell_alloc frozen_alloc set_alloc

theorem held_at {l : List Sl} {k : Nat} (hk : k < l.length) : heldIn l (k : Int) (nth dSl l k).gen = (nth dSl l k).live := by
  have h2 : (0 : Int) ≤ (k : Int) ∧ (k : Int) < (l.length : Int) := by omega
  simp [heldIn, hk]

set_option maxHeartbeats 4000000 in
theorem lkill_calls (ao : Option Addr) (n cap : Nat) (l : List Sl) (s g : Int) (w : World) (hl : Lay fS w ao n l) (hn : n ≤ 1000) :
    Calls Tryz.prog 165 #[.agg #[.slice ao n cap], .agg #[.int .i64 s, .int .i64 g]] w fun e w' => RetA w (killRes l s g) (killErr l s g) e w' := by
  have hlen := hl.len
  cases ho : arOk l
  · have hC : allErr l = 8 := by rw [allErr, ho]; rfl
    have he : killErr l s g = 8 := by rw [killErr, ho]; rfl
    rw [he, show killRes l s g = [] by rw [killRes, he]; rfl]
    go_enter Tryz.func165, Tryz.ntmps165
    go_wp2_with (go_at_call 128; refine (plus_post (lcheck_calls _ _ _ l _ (hl.ex (by with_reducible repeat (first | exact ex_refl _ | exact ex_more | apply ex_alloc | apply ex_plus | apply ex_drew | apply ex_drewN))) (by omega))).mono ?_; rintro e w' ⟨rfl, nx, rfl⟩; rw [hC])
    exact bodyPost_ret (v := .tuple #[.agg #[.slice none 0 0], .int .i64 8]) (by simp [results, Tryz.results165, go_sem, ↓IntWalk.iteOmega]) rfl ⟨none, 0, rfl, (by with_reducible repeat (first | exact ex_refl _ | exact ex_more | apply ex_alloc | apply ex_plus | apply ex_drew | apply ex_drewN)), own_nil⟩
  have hC : allErr l = 0 := by rw [allErr, ho]; rfl
  cases hh : heldIn l s g
  · have he : killErr l s g = 50 := by rw [killErr, ho, hh]; rfl
    rw [he, show killRes l s g = [] by rw [killRes, he]; rfl]
    go_enter Tryz.func165, Tryz.ntmps165
    go_wp2_with (first | (go_at_call 128; refine (plus_post (lcheck_calls _ _ _ l _ (hl.ex (by with_reducible repeat (first | exact ex_refl _ | exact ex_more | apply ex_alloc | apply ex_plus | apply ex_drew | apply ex_drewN))) (by omega))).mono ?_; rintro e w' ⟨rfl, nx, rfl⟩; rw [hC]) | (go_at_call 129; refine (plus_post (lheld_calls _ _ _ l _ _ _ (hl.ex (by with_reducible repeat (first | exact ex_refl _ | exact ex_more | apply ex_alloc | apply ex_plus | apply ex_drew | apply ex_drewN))) (by omega))).mono ?_; rintro e w' ⟨rfl, nx, rfl⟩; rw [hh]))
    exact bodyPost_ret (v := .tuple #[.agg #[.slice none 0 0], .int .i64 50]) (by simp [results, Tryz.results165, go_sem, ↓IntWalk.iteOmega]) rfl ⟨none, 0, rfl, (by with_reducible repeat (first | exact ex_refl _ | exact ex_more | apply ex_alloc | apply ex_plus | apply ex_drew | apply ex_drewN)), own_nil⟩
  have he : killErr l s g = 0 := by rw [killErr, ho, hh]; rfl
  rw [he, show killRes l s g = killList l s by rw [killRes, he]; rfl]
  obtain ⟨⟨s0, s1⟩, _⟩ := held_spec.1 hh
  obtain ⟨k, rfl⟩ : ∃ k : Nat, s = (k : Int) := ⟨s.toNat, by omega⟩
  have hk : k < n := by omega
  have ik : (k : Int) < (n : Int) := by omega
  have hkl : (killList l (k : Int)).length = n := by rw [killList, List.length_set]; exact hlen
  go_enter Tryz.func165, Tryz.ntmps165
  go_wp2_with (first | (go_at_call 128; refine (plus_post (lcheck_calls _ _ _ l _ (hl.ex (by with_reducible repeat (first | exact ex_refl _ | exact ex_more | apply ex_alloc | apply ex_plus | apply ex_drew | apply ex_drewN))) (by omega))).mono ?_; rintro e w' ⟨rfl, nx, rfl⟩; rw [hC]) | (go_at_call 129; refine (plus_post (lheld_calls _ _ _ l _ _ _ (hl.ex (by with_reducible repeat (first | exact ex_refl _ | exact ex_more | apply ex_alloc | apply ex_plus | apply ex_drew | apply ex_drewN))) (by omega))).mono ?_; rintro e w' ⟨rfl, nx, rfl⟩; rw [hh]) | (go_at_call 81; refine (ltwin_calls _ _ _ l _ (hl.ex (by with_reducible repeat (first | exact ex_refl _ | exact ex_more | apply ex_alloc | apply ex_plus | apply ex_drew | apply ex_drewN))) (by omega)).mono ?_; rintro e w1 ⟨a1, c1, rfl, hw1, o1⟩; have b0 : w1.cell? ⟨w.heap.size + 1, 0, none⟩ = some (.int .i64 k) := cell_ex hw1 (by simp [go_sem, ↓IntWalk.iteOmega]); have hres : w1.heap[w.heap.size + 1 + 1]? = some (.cells #[.slice none 0 0] 24) := blk_ex (w := ((w.alloc (.cells #[.slice ao n cap] 24)).alloc (.cells #[.int .i64 k, .int .i64 g] 32)).alloc (.cells #[.slice none 0 0] 24)) (by with_reducible repeat (first | exact ex_refl _ | exact ex_more | apply ex_alloc | apply ex_plus | apply ex_drew | apply ex_drewN | (apply ex_on; assumption))) (by rw [blk_alloc, if_pos (by simp [go_sem])]); obtain ⟨g1, cur, rfl, hg1, hb1, hsz⟩ := o1.blk (by omega); obtain ⟨_, _, eqa, hlt1, hc1⟩ := o1.lay.some (by omega); cases eqa; obtain ⟨x0, x1⟩ := cellS o1.1 hc1 (k := k) hk; rw [Nat.zero_add] at x0 x1; have z1 := frozen_blk (i := k * 2 + 1) hb1; have y0 := cell_blk (i := 0) hres rfl; have zy := frozen_blk (i := 0) hres; have hrl := blk_lt hres))
  have hgw : w.heap.size ≤ g1 := by simp [go_sem] at hg1; omega
  have hne : g1 ≠ w.heap.size + 1 + 1 := by
    intro e0
    rw [e0, hres] at hb1
    cases hb1
  have o2 := o1.set_self (u := .bool false) k 1 ⟨(nth dSl l k).gen, false⟩ dSl hk fS_c (by decide) rfl
  have hres2 : (w1.setCell ⟨g1, k * 2 + 1, none⟩ (.bool false)).heap[w.heap.size + 1 + 1]? = _ := (blk_set_ne hne).trans hres
  have o3 := (o2.set_other (i := 0) (u := .slice (some ⟨g1, 0, none⟩) n c1) hres2 (by decide)).ex (ex_alloc (o := .cells #[.slice (some ⟨g1, 0, none⟩) n c1] 24) (ex_refl _))
  have hres3 := blk_ex (ex_alloc (o := .cells #[.slice (some ⟨g1, 0, none⟩) n c1] 24) (ex_refl _)) (blk_set_eq (i := 0) (u := .slice (some ⟨g1, 0, none⟩) n c1) hres2)
  have hx3 : ∃ y, ((w1.setCell ⟨g1, k * 2 + 1, none⟩ (.bool false)).setCell ⟨w.heap.size + 1 + 1, 0, none⟩ (.slice (some ⟨g1, 0, none⟩) n c1)).alloc (.cells #[.slice (some ⟨g1, 0, none⟩) n c1] 24) = plus w y := ex_alloc (ex_set_new (ex_set_new (by with_reducible repeat (first | exact ex_refl _ | exact ex_more | apply ex_alloc | apply ex_plus | apply ex_drew | apply ex_drewN | (apply ex_on; assumption))) hgw) (by omega))
  generalize ((w1.setCell ⟨g1, k * 2 + 1, none⟩ (.bool false)).setCell ⟨w.heap.size + 1 + 1, 0, none⟩ (.slice (some ⟨g1, 0, none⟩) n c1)).alloc (.cells #[.slice (some ⟨g1, 0, none⟩) n c1] 24) = w4 at *
  have c0 := cell_blk (i := 0) hres3 rfl
  exact bodyPost_ret (v := .tuple #[.agg #[.slice (some ⟨g1, 0, none⟩) n c1], .int .i64 0]) (by simp [results, Tryz.results165, go_sem, c0]) rfl ⟨some ⟨g1, 0, none⟩, c1, by rw [hkl], hx3, by rw [hkl]; exact o3.base (by simp [go_sem]; omega)⟩

set_option maxHeartbeats 4000000 in
theorem lall_calls (ao : Option Addr) (n cap : Nat) (l : List Sl) (w : World) (hl : Lay fS w ao n l) (hn : n ≤ 9223372036854775807) :
    Calls Tryz.prog 71 #[.agg #[.slice ao n cap]] w fun e w' => RetT f2 w (allList l) (.int .i64 (allErr l)) e w' := by
  have hlen := hl.len
  cases ho : arOk l
  · have hC : allErr l = 8 := by rw [allErr, ho]; rfl
    rw [hC, show allList l = [] by rw [allList, ho]; rfl]
    go_enter Tryz.func71, Tryz.ntmps71
    go_wp2_with (go_at_call 128; refine (plus_post (lcheck_calls _ _ _ l _ (hl.ex (by with_reducible repeat (first | exact ex_refl _ | exact ex_more | apply ex_alloc | apply ex_plus | apply ex_drew | apply ex_drewN))) hn)).mono ?_; rintro e w' ⟨rfl, nx, rfl⟩; rw [hC])
    exact bodyPost_ret (v := .tuple #[.slice none 0 0, .int .i64 8]) (by simp [results, Tryz.results71, go_sem]) rfl ⟨_, _, _, rfl, (by with_reducible repeat (first | exact ex_refl _ | exact ex_more | apply ex_alloc | apply ex_plus | apply ex_drew | apply ex_drewN)), Lay.nil⟩
  rw [show allErr l = 0 by rw [allErr, ho]; rfl, show allList l = allH l n by rw [allList, ho, hlen]; rfl]
  have h128 := arOk_len ho
  have hC : allErr l = 0 := by rw [allErr, ho]; rfl
  go_enter Tryz.func71, Tryz.ntmps71
  go_wp2_with (go_at_call 128; refine (plus_post (lcheck_calls _ _ _ l _ (hl.ex (by with_reducible repeat (first | exact ex_refl _ | exact ex_more | apply ex_alloc | apply ex_plus | apply ex_drew | apply ex_drewN))) hn)).mono ?_; rintro e w' ⟨rfl, nx, rfl⟩; rw [hC])
  go_loopw [5, 17] (fun v i wr => ∃ (k : Nat) (ao' : Option Addr) (cap' : Nat), k ≤ n ∧ v = .slice ao' (allH l k).length cap' ∧ i = .int .i64 k ∧ (∃ y, wr = plus (plus (w.alloc (.cells #[.slice ao n cap] 24)) nx) y) ∧ Own 32 2 f2 (plus (w.alloc (.cells #[.slice ao n cap] 24)) nx) wr ao' (allH l k).length cap' (allH l k)) (fun _ i _ => n - (intOf i).toNat)
  case atStart => exact ⟨0, none, 0, Nat.zero_le _, rfl, rfl, (by with_reducible repeat (first | exact ex_refl _ | exact ex_more | apply ex_alloc | apply ex_plus | apply ex_drew | apply ex_drewN)), own_nil⟩
  case round =>
    obtain ⟨k, ao', cap', hk, rfl, rfl, ⟨x, rfl⟩, hown⟩ := hrel
    have hle := allH_le l k
    by_cases hkl : k < n
    · obtain ⟨g, off, rfl, hg, hcell⟩ := hl.some (by omega)
      obtain ⟨c0, c1⟩ := cellS hlen hcell hkl
      have ik : (k : Int) < (n : Int) := by omega
      cases hv : (nth dSl l k).live
      · have hs : allH l (k + 1) = allH l k := by show allH l k ++ _ = _; rw [hv]; simp
        go_wp2_with (go_at_call 129; refine (plus_post (lheld_calls _ _ _ l _ _ _ (hl.ex (by with_reducible repeat (first | exact ex_refl _ | exact ex_more | apply ex_alloc | apply ex_plus | apply ex_drew | apply ex_drewN))) (by omega))).mono ?_; rintro e w' ⟨rfl, nh, rfl⟩; rw [held_at (by omega), hv])
        go_roundw
        case rel => exact ⟨k + 1, ao', cap', by omega, by rw [hs], by go_num, (by with_reducible repeat (first | exact ex_refl _ | exact ex_more | apply ex_alloc | apply ex_plus | apply ex_drew | apply ex_drewN)), by rw [hs]; exact hown.ex (by with_reducible repeat (first | exact ex_refl _ | exact ex_more | apply ex_alloc | apply ex_plus | apply ex_drew | apply ex_drewN))⟩
        case measure => simp [intOf]; omega
      · have hs : allH l (k + 1) = allH l k ++ [((k : Int), (nth dSl l k).gen)] := by show allH l k ++ _ = _; rw [hv]; rfl
        have hsn : (allH l (k + 1)).length = (allH l k).length + 1 := by rw [hs, List.length_append]; rfl
        go_wp2_with (first | (go_at_call 129; refine (plus_post (lheld_calls _ _ _ l _ _ _ (hl.ex (by with_reducible repeat (first | exact ex_refl _ | exact ex_more | apply ex_alloc | apply ex_plus | apply ex_drew | apply ex_drewN))) (by omega))).mono ?_; rintro e w' ⟨rfl, nh, rfl⟩; rw [held_at (by omega), hv]) | (at_builtin; (refine wpList_append_lay (T := plus (w.alloc (.cells #[.slice (some ⟨g, off, none⟩) n cap] 24)) nx) rfl _ _ rfl kinH f2_c f2_1 rfl (by with_reducible repeat (first | exact ex_refl _ | exact ex_more | apply ex_alloc | apply ex_plus | apply ex_drew | apply ex_drewN)) (hown.ex (by with_reducible repeat (first | exact ex_refl _ | exact ex_more | apply ex_alloc | apply ex_plus | apply ex_drew | apply ex_drewN))) rfl (l2 := [((k : Int), (nth dSl l k).gen)]) ⟨rfl, .inr ⟨_, 0, rfl, by (simp [go_sem]; try omega), fun jj u hu => by match jj, hu with | 0, hu => (simp [f2] at hu; subst hu; simp [go_sem, ↓IntWalk.iteOmega]) | 1, hu => (simp [f2] at hu; subst hu; simp [go_sem, ↓IntWalk.iteOmega]) | jj + 2, hu => simp [f2] at hu⟩⟩ (by omega) (by decide) ?_; intro ao' cap' y' hown')))
        go_roundw
        case rel => exact ⟨k + 1, ao', cap', by omega, by rw [hsn], by go_num, ⟨y', rfl⟩, by rw [hsn, hs]; exact hown'⟩
        case measure => simp [intOf]; omega
    · have ik : ¬ (k : Int) < (n : Int) := by omega
      obtain rfl : k = n := by omega
      go_wp2
      exact bodyPost_ret (v := .tuple #[.slice ao' (allH l k).length cap', .int .i64 0]) (by simp [results, Tryz.results71, go_sem]) rfl ⟨_, _, _, rfl, (by with_reducible repeat (first | exact ex_refl _ | exact ex_more | apply ex_alloc | apply ex_plus | apply ex_drew | apply ex_drewN)), hown.lay⟩

end

end Go.Proofs.YtcekcihijdipoaaGreat
