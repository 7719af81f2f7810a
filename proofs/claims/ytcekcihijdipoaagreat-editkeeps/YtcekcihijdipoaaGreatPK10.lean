/- A pack of texts: EdOwn, EdEqN, EdEqM, EdEqT, Arena6, Arena7. -/
import Derived.Deep.DeepCutAuto
import Derived.Test.YtcekcihijdipoaaGreatPK7
import Derived.Test.YtcekcihijdipoaaGreatPK9
import Derived.Test.YtcekcihijdipoaaGreatPK8
import Derived.Test.YtcekcihijdipoaaGreatPK4
namespace Go.Proofs.YtcekcihijdipoaaGreat

section


open Go.RowKit

/-- the numbers of a mesh, a texture that are a byte are one -/
def PsB (m : Ms) : Prop := ∀ k, k < m.ps.length → 0 ≤ (nth dPr m.ps k).kind ∧ (nth dPr m.ps k).kind ≤ 255

def ClsB (l : List Cl) : Prop := ∀ k, k < l.length → ClB (nth cl0 l k)

/-- how great a thing's lists are -/
def FewNd (n : Nd) : Prop := n.far.length ≤ 10000

def FewMs (m : Ms) : Prop := m.vs.length ≤ 1000 ∧ m.uv.length ≤ 1000 ∧ m.ps.length ≤ 100 ∧ ∀ k, k < m.ps.length → (nth dPr m.ps k).ix.length ≤ 1000

def FewTp (t : Tp) : Prop := t.l.length ≤ 20000

structure FewSc (s : Sc) : Prop where
  sl : s.g.sl.length ≤ 1000
  ks : s.g.ks.length ≤ 1000
  row : ∀ k, k < s.g.ks.length → (nth [] s.g.ks k).length ≤ 1000
  nn : s.ns.length ≤ 1000
  mn : s.ms.length ≤ 1000
  tn : s.ts.length ≤ 1000
  ns : ∀ k, k < s.ns.length → FewNd (nth nd0 s.ns k)
  ms : ∀ k, k < s.ms.length → FewMs (nth ms0 s.ms k)
  ts : ∀ k, k < s.ts.length → FewTp (nth tp0 s.ts k)

/-- a texture in memory newer than T -/
structure TexOwn (T w : World) (h : TH) (t : Tp) : Prop where
  we : h.w = t.w
  he : h.h = t.h
  tx : Own 50 4 fCl T w h.ao h.n h.cap t.l
  ok : ClsB t.l

structure MeshOwn (T w : World) (h : MH) (hs : List PH) (m : Ms) : Prop where
  t : TwinAt T w h hs m
  b : PsB m

section

variable {T T' w w' : World} {g : Nat} {cur cs : Array Value} {e' : TypeId}

theorem TexOwn.ex {h : TH} {t : Tp} (a : TexOwn T w h t) (hw : ∃ y, w' = plus w y) : TexOwn T w' h t := ⟨a.we, a.he, a.tx.ex hw, a.ok⟩

theorem TexOwn.base {h : TH} {t : Tp} (a : TexOwn T w h t) (hT : T'.heap.size ≤ T.heap.size) : TexOwn T' w h t := ⟨a.we, a.he, a.tx.base hT, a.ok⟩

theorem TexOwn.row_other {h : TH} {t : Tp} (a : TexOwn T w h t) (hb : w.heap[g]? = some (.cells cur e')) (he : e' ≠ 50) : TexOwn T (w.setRow g cs) h t := ⟨a.we, a.he, a.tx.row_other hb he, a.ok⟩

theorem TwinAt.ex {h : MH} {hs : List PH} {m : Ms} (a : TwinAt T w h hs m) (hw : ∃ y, w' = plus w y) : TwinAt T w' h hs m := ⟨a.v.ex hw, a.u.ex hw, a.p.ex hw, a.len, a.kind, fun k hk => (a.ix k hk).ex hw⟩

theorem TwinAt.base {h : MH} {hs : List PH} {m : Ms} (a : TwinAt T w h hs m) (hT : T'.heap.size ≤ T.heap.size) : TwinAt T' w h hs m := ⟨a.v.base hT, a.u.base hT, a.p.base hT, a.len, a.kind, fun k hk => (a.ix k hk).base hT⟩

theorem TwinAt.row_other {h : MH} {hs : List PH} {m : Ms} (a : TwinAt T w h hs m) (hb : w.heap[g]? = some (.cells cur e')) (h1 : e' ≠ 43) (h2 : e' ≠ 137) (h3 : e' ≠ 131) (h4 : e' ≠ 3) : TwinAt T (w.setRow g cs) h hs m :=
  ⟨a.v.row_other hb h1, a.u.row_other hb h2, a.p.row_other hb h3, a.len, a.kind, fun k hk => (a.ix k hk).row_other hb h4⟩

theorem MeshOwn.ex {h : MH} {hs : List PH} {m : Ms} (a : MeshOwn T w h hs m) (hw : ∃ y, w' = plus w y) : MeshOwn T w' h hs m := ⟨a.t.ex hw, a.b⟩

theorem MeshOwn.base {h : MH} {hs : List PH} {m : Ms} (a : MeshOwn T w h hs m) (hT : T'.heap.size ≤ T.heap.size) : MeshOwn T' w h hs m := ⟨a.t.base hT, a.b⟩

theorem MeshOwn.row_other {h : MH} {hs : List PH} {m : Ms} (a : MeshOwn T w h hs m) (hb : w.heap[g]? = some (.cells cur e')) (h1 : e' ≠ 43) (h2 : e' ≠ 137) (h3 : e' ≠ 131) (h4 : e' ≠ 3) : MeshOwn T (w.setRow g cs) h hs m := ⟨a.t.row_other hb h1 h2 h3 h4, a.b⟩

theorem NodeOwn.row_other {h : NH} {n : Nd} (a : NodeOwn T w h n) (hb : w.heap[g]? = some (.cells cur e')) (he : e' ≠ 3) : NodeOwn T (w.setRow g cs) h n := ⟨a.f, a.b, a.far.row_other hb he⟩

theorem NodeOwn.at {h : NH} {n : Nd} (a : NodeOwn T w h n) (hf : FewNd n) : NodeAt w h n := by
  have := a.far.1
  unfold FewNd at hf
  exact ⟨a.f, a.b, by omega, a.far.cap_le, a.far.none_zero, a.far.lay⟩

theorem MeshOwn.at {h : MH} {hs : List PH} {m : Ms} (a : MeshOwn T w h hs m) (hf : FewMs m) : MeshAt w h hs m := by
  have h1 := a.t.v.1
  have h2 := a.t.u.1
  have h3 := a.t.p.1
  have h4 := a.t.len
  obtain ⟨f1, f2, f3, f4⟩ := hf
  refine ⟨by omega, by omega, by omega, a.t.v.none_zero, a.t.u.none_zero, a.t.p.none_zero, a.t.v.lay, a.t.u.lay, a.t.p.lay, a.t.len, fun k hk => ?_⟩
  have h5 := (a.t.ix k hk).1
  have h6 := f4 k (by omega)
  have h7 := a.b k (by omega)
  exact ⟨a.t.kind k hk, h7.1, h7.2, by omega, (a.t.ix k hk).none_zero, (a.t.ix k hk).lay⟩

theorem TexOwn.at {h : TH} {t : Tp} (a : TexOwn T w h t) (hf : FewTp t) : TexAt w h t := by
  have := a.tx.1
  unfold FewTp at hf
  exact ⟨a.we, a.he, ⟨by omega, a.tx.none_zero, a.tx.lay, fun k hk => a.ok k (by omega)⟩⟩

end

/-- a scene in memory newer than T -/
structure ScOwn (T w : World) (h : SH) (x : SX) (s : Sc) : Prop where
  g : GrOwn T w h.ga h.gn h.gc h.ka h.kn h.kc x.gr s.g
  nl : Own 56 33 fN T w h.na h.nn h.nc x.nh
  nlen : x.nh.length = s.ns.length
  ns : ∀ k, k < x.nh.length → NodeOwn T w (nth nh0 x.nh k) (nth nd0 s.ns k)
  ml : Own 61 3 fMh T w h.ma h.mn h.mc x.mh
  mlen : x.mh.length = s.ms.length
  ms : ∀ k, k < x.mh.length → MeshOwn T w (nth mh0 x.mh k) (nth [] x.ph k) (nth ms0 s.ms k)
  tl : Own 64 3 fTh T w h.ta h.tn h.tc x.th
  tlen : x.th.length = s.ts.length
  ts : ∀ k, k < x.th.length → TexOwn T w (nth th0 x.th k) (nth tp0 s.ts k)
  root : s.root = (h.r0, h.r1)
  pl : x.ph.length = x.mh.length

/-- a scene that is not too great lies in w -/
structure ScAt (w : World) (h : SH) (x : SX) (s : Sc) : Prop where
  g : GrAt w h.ga h.gn h.ka h.kn x.gr s.g
  r : RestAt w h x s
  f : FewSc s

section

variable {T T' w w' : World} {h : SH} {x : SX} {s : Sc}

theorem ScOwn.ex (a : ScOwn T w h x s) (hw : ∃ y, w' = plus w y) : ScOwn T w' h x s :=
  ⟨a.g.ex hw, a.nl.ex hw, a.nlen, fun k hk => (a.ns k hk).ex hw, a.ml.ex hw, a.mlen, fun k hk => (a.ms k hk).ex hw, a.tl.ex hw, a.tlen, fun k hk => (a.ts k hk).ex hw, a.root, a.pl⟩

theorem ScOwn.base (a : ScOwn T w h x s) (hT : T'.heap.size ≤ T.heap.size) : ScOwn T' w h x s :=
  ⟨a.g.base hT, a.nl.base hT, a.nlen, fun k hk => (a.ns k hk).base hT, a.ml.base hT, a.mlen, fun k hk => (a.ms k hk).base hT, a.tl.base hT, a.tlen, fun k hk => (a.ts k hk).base hT, a.root, a.pl⟩

theorem ScOwn.at (a : ScOwn T w h x s) (f : FewSc s) : ScAt w h x s := by
  have g1 := a.g.sl.1
  have g2 := a.g.kl
  have n1 := a.nl.1
  have m1 := a.ml.1
  have t1 := a.tl.1
  have n2 := a.nlen
  have m2 := a.mlen
  have t2 := a.tlen
  have f1 := f.sl
  have f2 := f.ks
  have f4 := f.nn
  have f5 := f.mn
  have f6 := f.tn
  refine ⟨a.g.at (by omega) (by omega) f.row, ⟨a.nl.lay, ⟨a.nlen, fun k hk => (a.ns k hk).at (f.ns k (by omega))⟩, a.ml.lay, ⟨a.mlen, fun k hk => (a.ms k hk).at (f.ms k (by omega))⟩, a.tl.lay, ⟨a.tlen, fun k hk => (a.ts k hk).at (f.ts k (by omega))⟩, by omega, by omega, by omega, a.root⟩, f⟩

theorem ScAt.ex (a : ScAt w h x s) (hw : ∃ y, w' = plus w y) : ScAt w' h x s := ⟨a.g.ex hw, a.r.ex hw, a.f⟩

theorem ScAt.small (a : ScAt w h x s) : Small x := by
  refine ⟨fun k hk => ?_, fun k hk => ?_⟩
  · have h1 := a.r.ns.len
    have h2 := (a.r.ns.one k hk).lay.len
    have h3 := a.f.ns k (by omega)
    unfold FewNd at h3
    omega
  · have h1 := a.r.ms.len
    have h2 := a.r.ms.one k hk
    obtain ⟨f1, f2, f3, f4⟩ := a.f.ms k (by omega)
    have v := h2.vl.len
    have u := h2.ul.len
    have p := h2.pl.len
    have q := h2.pp.len
    refine ⟨by omega, by omega, by omega, fun j hj => ?_⟩
    have h3 := (h2.pp.one j hj).lay.len
    have h4 := f4 j (by omega)
    omega

theorem ScAt.nn (a : ScAt w h x s) : s.ns.length = h.nn ∧ x.nh.length = h.nn := ⟨a.r.ns.len ▸ a.r.nl.len, a.r.nl.len⟩

theorem ScAt.mn (a : ScAt w h x s) : s.ms.length = h.mn ∧ x.mh.length = h.mn := ⟨a.r.ms.len ▸ a.r.ml.len, a.r.ml.len⟩

theorem ScAt.tn (a : ScAt w h x s) : s.ts.length = h.tn ∧ x.th.length = h.tn := ⟨a.r.ts.len ▸ a.r.tl.len, a.r.tl.len⟩

end

theorem ps_at {m : Ms} (h : msOk m = true) {k : Nat} (hk : k < m.ps.length) : (nth dPr m.ps k).ix.length ≤ 200 := by
  simp only [msOk, psOk, Bool.and_eq_true, List.all_eq_true] at h
  have h1 := h.2.1 _ (nth_mem (d := dPr) hk)
  simp only [pOk, Bool.and_eq_true, decide_eq_true_eq] at h1
  have h2 := h1.1
  unfold prErr at h2
  split at h2
  · cases h2
  split at h2
  · cases h2
  · omega

theorem few_msErr {m : Ms} (h : msErr m = 0) : FewMs m := by
  unfold msErr at h
  split at h
  · cases h
  · rename_i h1
    split at h
    · rename_i h2
      refine ⟨by omega, by omega, by omega, fun k hk => ?_⟩
      have := ps_at h2 hk
      omega
    · cases h

theorem few_tex {t : Tp} (h : mayTp t = true) : FewTp t := by
  unfold mayTp mayT at h
  simp only [Bool.and_eq_true, decide_eq_true_eq, side_iff] at h
  obtain ⟨h1, h2, h3⟩ := h
  have : t.w * t.h ≤ 16 * 16 := Int.mul_le_mul h1.2 h2.2 (by omega) (by omega)
  unfold FewTp
  omega

theorem few_node {a b : Nat} {n : Nd} (h : mayNd a b n = true) : FewNd n := by
  unfold FewNd
  simp only [mayNd, Bool.and_eq_true] at h
  obtain ⟨h1, h2, h3, h4, h5, h6, h7⟩ := h
  split at h7
  · rename_i e5
    simp only [Bool.or_eq_true, Bool.and_eq_true, decide_eq_true_eq] at h6
    rcases h6 with h6 | h6
    · omega
    · omega
  · simp only [Bool.and_eq_true, distOk, decide_eq_true_eq] at h7
    omega

theorem few_may {s : Sc} (h : maySc s = true) : FewSc s := by
  obtain ⟨hg, hl, hst, hn, hr⟩ := may_parts h
  obtain ⟨g1, g2, g3, g4⟩ := gr_parts hg
  obtain ⟨m1, m2, m3, m4⟩ := stores_parts hst
  have ha := arOk_len g1
  refine ⟨by omega, by omega, fun k hk => ?_, by omega, by omega, by omega, fun k hk => ?_, fun k hk => few_msErr (m1 _ (nth_mem hk)), fun k hk => few_tex (m2 _ (nth_mem hk))⟩
  · have := (rows_at g3 hk).1
    omega
  · have hk2 := node_ok.1 (hn k hk)
    cases hv : (nth dSl s.g.sl k).live
    · rw [hk2.2.1 hv]
      exact Nat.zero_le _
    · exact few_node (hk2.1 hv)

end

section


open Go.RowKit Go.ChangeShapes Go.WideShapes Go.ChangeAt

set_option linter.unusedSimpArgs false

set_option linter.unusedVariables false

attribute [local go_sem] plus_size plus_drew dn_set dn_alloc dn_plus plus_dn cell_plus frozen_plus set_plus cell_alloc frozen_alloc set_alloc

set_option maxRecDepth 100000 in
set_option maxHeartbeats 4000000 in
theorem eqfN_calls (ao ao2 : Option Addr) (n n2 cap cap2 : Nat) (hs hs2 : List NH) (ns ns2 : List Nd) (w : World) (hn : n ≤ 100000) (hl : Lay fN w ao n hs) (hl2 : Lay fN w ao2 n2 hs2) (hA : NodesAt w hs ns) (hA2 : NodesAt w hs2 ns2) (hf : ∀ k, k < ns.length → FewNd (nth nd0 ns k)) (hf2 : ∀ k, k < ns2.length → FewNd (nth nd0 ns2 k)) {v : Bool} (hv : sameL sameNd nd0 ns ns2 = v) :
    Calls Tryz.prog 56 #[.slice ao n cap, .slice ao2 n2 cap2, .func (.func 48) #[] #[]] w fun e w' => e = .returned (.bool v) ∧ ∃ y, w' = plus w y := by
  have hlen := hl.len
  have hlen2 := hl2.len
  have alen := hA.len
  have alen2 := hA2.len
  by_cases hne : n = n2
  rotate_left
  · have dne : ((n : Int) == (n2 : Int)) = false := by rw [beq_eq_false_iff_ne]; omega
    rw [same_len (by omega)] at hv
    subst hv
    go_enter Tryz.func56, Tryz.ntmps56
    go_wp2
    go_ret
    exact ⟨rfl, sk9⟩
  subst hne
  replace hv := Hush9.mk hv
  go_enter Tryz.func56, Tryz.ntmps56
  go_wp2
  go_loopw [17] (fun i wr => ∃ k : Nat, k ≤ n ∧ i = .int .i64 k ∧ (∀ j, j < k → sameNd (nth nd0 ns j) (nth nd0 ns2 j) = true) ∧ ∃ y, wr = plus w y) (fun i _ => n - (intOf i).toNat)
  case atStart => exact ⟨0, Nat.zero_le _, rfl, fun j hj => by omega, sk9⟩
  case round =>
    obtain ⟨k, hk, rfl, hs', hx⟩ := hrel
    by_cases hkl : k < n
    · have ik : (k : Int) < (n : Int) := by omega
      obtain ⟨g1, o1, rfl, hg1, hc1⟩ := hl.some (by omega)
      obtain ⟨g2, o2, rfl, hg2, hc2⟩ := hl2.some (by omega)
      have hp := Hush9.mk (lay_part (d := nh0) hlen fN_c hc1 hkl)
      have hp2 := Hush9.mk (lay_part (d := nh0) hlen2 fN_c hc2 hkl)
      have a1 := (hA.one k (by omega)).ex hx
      have a2 := (hA2.one k (by omega)).ex hx
      have f1 : (nth nh0 hs k).n ≤ 10000 := by have h0 := hf k (by omega); have h2 := a1.lay.len; unfold FewNd at h0; omega
      have f2 : (nth nh0 hs2 k).n ≤ 10000 := by have h0 := hf2 k (by omega); have h2 := a2.lay.len; unfold FewNd at h0; omega
      obtain ⟨bq, hq⟩ : ∃ b, sameNd (nth nd0 ns k) (nth nd0 ns2 k) = b := ⟨_, rfl⟩
      replace hq := Hush9.mk hq
      obtain ⟨q, hqs⟩ : ∃ q, wr.heap.size = q := ⟨_, rfl⟩
      clear hc1 hc2
      go_upto_region 6 with (first | (refine wpList_load_part rfl 56 _ rfl g1 (o1 + k * 33) rfl (fN (nth nh0 hs k)) _ (fun j v hj => cell_ex (ex_trans hx sk9) (hp.it j v hj)) Tryz.underlying56 rfl (by kernel_rfl) ?_; simp only [Act.put, List.setIfInBounds_toArray, List.set_cons_succ, List.set_cons_zero]) | (refine wpList_store_box rfl 56 _ _ rfl q (fN (nth nh0 hs k)) (by simp [go_sem, hqs]) rfl _ _ (by rw [← hqs]; exact blk_new2 _ _) (by kernel_rfl) (by kernel_rfl) (fN_1 _) ?_))
      refine name_w (fun w' => (∃ y, w' = plus wr y) ∧ w'.heap[q]? = some (.cells (fN (nth nh0 hs k)).toArray 56) ∧ w'.heap.size = q + 1) ⟨ex_row_new sk9 (by omega), blk_row_eq (by rw [← hqs]; exact blk_new2 _ _), by rw [setRow_size, size_alloc, hqs]⟩ ?_
      try simp only [hqs]
      rintro w2 ⟨x2, kq, zq⟩
      go_upto_region 7 with (first | (refine wpList_load_part rfl 56 _ rfl g2 (o2 + k * 33) rfl (fN (nth nh0 hs2 k)) _ (fun j v hj => cell_ex (ex_trans (ex_trans hx x2) sk9) (hp2.it j v hj)) Tryz.underlying56 rfl (by kernel_rfl) ?_; simp only [Act.put, List.setIfInBounds_toArray, List.set_cons_succ, List.set_cons_zero]) | (refine wpList_store_box rfl 56 _ _ rfl (q + 1) (fN (nth nh0 hs2 k)) (by simp [go_sem, zq]) rfl _ _ (by rw [← zq]; exact blk_new2 _ _) (by kernel_rfl) (by kernel_rfl) (fN_1 _) ?_))
      refine name_w (fun w' => (∃ y, w' = plus w2 y) ∧ w'.heap[q + 1]? = some (.cells (fN (nth nh0 hs2 k)).toArray 56)) ⟨ex_row_new sk9 (by omega), blk_row_eq (by rw [← zq]; exact blk_new2 _ _)⟩ ?_
      try simp only [zq]
      rintro w3 ⟨x3, kq2⟩
      have kq1 := blk_ex x3 kq
      cases bq
      · go_wp2_with (first | (refine wpList_load_row rfl 56 _ rfl q rfl _ _ _ _ kq1 Tryz.underlying56 rfl (by kernel_rfl) ?_) | (refine wpList_load_row rfl 56 _ rfl (q + 1) rfl _ _ _ _ kq2 Tryz.underlying56 rfl (by kernel_rfl) ?_) | (go_at_call 48; refine (lsameNd_at (h := nth nh0 hs k) (h2 := nth nh0 hs2 k) (a1.ex (ex_trans x2 x3)) (a2.ex (ex_trans x2 x3)) f1 f2 hq.it).mono ?_; rintro e w' ⟨rfl, nx, rfl⟩))
        go_ret
        exact ⟨by rw [← hv.it, same_not (k := k) (by omega) hq.it]; rfl, ex_trans (ex_trans (ex_trans hx x2) x3) sk9⟩
      · go_wp2_with (first | (refine wpList_load_row rfl 56 _ rfl q rfl _ _ _ _ kq1 Tryz.underlying56 rfl (by kernel_rfl) ?_) | (refine wpList_load_row rfl 56 _ rfl (q + 1) rfl _ _ _ _ kq2 Tryz.underlying56 rfl (by kernel_rfl) ?_) | (go_at_call 48; refine (lsameNd_at (h := nth nh0 hs k) (h2 := nth nh0 hs2 k) (a1.ex (ex_trans x2 x3)) (a2.ex (ex_trans x2 x3)) f1 f2 hq.it).mono ?_; rintro e w' ⟨rfl, nx, rfl⟩))
        go_roundw
        case rel => exact ⟨k + 1, by omega, by go_num, upto_succ9 hs' hq.it, ex_trans (ex_trans (ex_trans hx x2) x3) sk9⟩
        case measure => simp [intOf]; omega
    · have ik : ¬ (k : Int) < (n : Int) := by omega
      obtain rfl : n = k := by omega
      have hall : sameL sameNd nd0 ns ns2 = true := same_all (by omega) (fun j hj => hs' j (by omega))
      go_wp2
      go_ret
      exact ⟨by rw [← hv.it, hall]; rfl, ex_trans hx sk9⟩

end

section


open Go.RowKit Go.ChangeShapes Go.WideShapes Go.ChangeAt

set_option linter.unusedSimpArgs false

set_option linter.unusedVariables false

attribute [local go_sem] plus_size plus_drew dn_set dn_alloc dn_plus plus_dn cell_plus frozen_plus set_plus cell_alloc frozen_alloc set_alloc

theorem few_at {w : World} {h : MH} {hs : List PH} {m : Ms} (a : MeshAt w h hs m) (f : FewMs m) : FewM hs ∧ h.vn ≤ 1000 ∧ h.un ≤ 1000 ∧ h.pn ≤ 100 := by
  have v := a.vl.len
  have u := a.ul.len
  have p := a.pl.len
  have q := a.pp.len
  obtain ⟨f1, f2, f3, f4⟩ := f
  refine ⟨fun j hj => ?_, by omega, by omega, by omega⟩
  have h3 := (a.pp.one j hj).lay.len
  have h4 := f4 j (by omega)
  omega

theorem msame_at {w : World} {h h2 : MH} {hs gs : List PH} {m o : Ms} {b : Bool} (hb : sameMs m o = b) (hm : MeshAt w h hs m) (hm2 : MeshAt w h2 gs o) (s1 : FewMs m) (s2 : FewMs o) :
    Calls Tryz.prog 58 #[.agg (fMh h).toArray, .agg (fMh h2).toArray] w fun e w' => e = .returned (.bool b) ∧ ∃ y, w' = plus w y := by
  have q1 := few_at hm s1
  have q2 := few_at hm2 s2
  refine (plus_post (same_calls _ _ _ _ _ _ _ _ _ hs _ _ _ _ _ _ _ _ _ gs m o w hm hm2 q1.1 q2.1 q1.2.1 q1.2.2.1 q1.2.2.2 q2.2.1 q2.2.2.1 q2.2.2.2)).mono ?_
  rintro e w' ⟨rfl, nx, rfl⟩
  exact ⟨by rw [hb], nx, rfl⟩

set_option maxRecDepth 100000 in
set_option maxHeartbeats 4000000 in
theorem eqfM_calls (ao ao2 : Option Addr) (n n2 cap cap2 : Nat) (hs hs2 : List MH) (ps ps2 : List (List PH)) (ns ns2 : List Ms) (w : World) (hn : n ≤ 100000) (hl : Lay fMh w ao n hs) (hl2 : Lay fMh w ao2 n2 hs2) (hA : MeshesAt w hs ps ns) (hA2 : MeshesAt w hs2 ps2 ns2) (hf : ∀ k, k < ns.length → FewMs (nth ms0 ns k)) (hf2 : ∀ k, k < ns2.length → FewMs (nth ms0 ns2 k)) {v : Bool} (hv : sameL sameMs ms0 ns ns2 = v) :
    Calls Tryz.prog 57 #[.slice ao n cap, .slice ao2 n2 cap2, .func (.func 58) #[] #[]] w fun e w' => e = .returned (.bool v) ∧ ∃ y, w' = plus w y := by
  have hlen := hl.len
  have hlen2 := hl2.len
  have alen := hA.len
  have alen2 := hA2.len
  by_cases hne : n = n2
  rotate_left
  · have dne : ((n : Int) == (n2 : Int)) = false := by rw [beq_eq_false_iff_ne]; omega
    rw [same_len (by omega)] at hv
    subst hv
    go_enter Tryz.func57, Tryz.ntmps57
    go_wp2
    go_ret
    exact ⟨rfl, sk9⟩
  subst hne
  replace hv := Hush9.mk hv
  go_enter Tryz.func57, Tryz.ntmps57
  go_wp2
  go_loopw [17] (fun i wr => ∃ k : Nat, k ≤ n ∧ i = .int .i64 k ∧ (∀ j, j < k → sameMs (nth ms0 ns j) (nth ms0 ns2 j) = true) ∧ ∃ y, wr = plus w y) (fun i _ => n - (intOf i).toNat)
  case atStart => exact ⟨0, Nat.zero_le _, rfl, fun j hj => by omega, sk9⟩
  case round =>
    obtain ⟨k, hk, rfl, hs', hx⟩ := hrel
    by_cases hkl : k < n
    · have ik : (k : Int) < (n : Int) := by omega
      obtain ⟨g1, o1, rfl, hg1, hc1⟩ := hl.some (by omega)
      obtain ⟨g2, o2, rfl, hg2, hc2⟩ := hl2.some (by omega)
      have hp := Hush9.mk (lay_part (d := mh0) hlen fMh_c hc1 hkl)
      have hp2 := Hush9.mk (lay_part (d := mh0) hlen2 fMh_c hc2 hkl)
      have a1 := (hA.one k (by omega)).ex hx
      have a2 := (hA2.one k (by omega)).ex hx
      have f1 := hf k (by omega)
      have f2 := hf2 k (by omega)
      obtain ⟨bq, hq⟩ : ∃ b, sameMs (nth ms0 ns k) (nth ms0 ns2 k) = b := ⟨_, rfl⟩
      replace hq := Hush9.mk hq
      obtain ⟨q, hqs⟩ : ∃ q, wr.heap.size = q := ⟨_, rfl⟩
      clear hc1 hc2
      go_upto_region 6 with (first | (refine wpList_load_part rfl 61 _ rfl g1 (o1 + k * 3) rfl (fMh (nth mh0 hs k)) _ (fun j v hj => cell_ex (ex_trans hx sk9) (hp.it j v hj)) Tryz.underlying61 rfl (by kernel_rfl) ?_; simp only [Act.put, List.setIfInBounds_toArray, List.set_cons_succ, List.set_cons_zero]) | (refine wpList_store_box rfl 61 _ _ rfl q (fMh (nth mh0 hs k)) (by simp [go_sem, hqs]) rfl _ _ (by rw [← hqs]; exact blk_new2 _ _) (by kernel_rfl) (by kernel_rfl) (fMh_1 _) ?_))
      refine name_w (fun w' => (∃ y, w' = plus wr y) ∧ w'.heap[q]? = some (.cells (fMh (nth mh0 hs k)).toArray 61) ∧ w'.heap.size = q + 1) ⟨ex_row_new sk9 (by omega), blk_row_eq (by rw [← hqs]; exact blk_new2 _ _), by rw [setRow_size, size_alloc, hqs]⟩ ?_
      try simp only [hqs]
      rintro w2 ⟨x2, kq, zq⟩
      go_upto_region 7 with (first | (refine wpList_load_part rfl 61 _ rfl g2 (o2 + k * 3) rfl (fMh (nth mh0 hs2 k)) _ (fun j v hj => cell_ex (ex_trans (ex_trans hx x2) sk9) (hp2.it j v hj)) Tryz.underlying61 rfl (by kernel_rfl) ?_; simp only [Act.put, List.setIfInBounds_toArray, List.set_cons_succ, List.set_cons_zero]) | (refine wpList_store_box rfl 61 _ _ rfl (q + 1) (fMh (nth mh0 hs2 k)) (by simp [go_sem, zq]) rfl _ _ (by rw [← zq]; exact blk_new2 _ _) (by kernel_rfl) (by kernel_rfl) (fMh_1 _) ?_))
      refine name_w (fun w' => (∃ y, w' = plus w2 y) ∧ w'.heap[q + 1]? = some (.cells (fMh (nth mh0 hs2 k)).toArray 61)) ⟨ex_row_new sk9 (by omega), blk_row_eq (by rw [← zq]; exact blk_new2 _ _)⟩ ?_
      try simp only [zq]
      rintro w3 ⟨x3, kq2⟩
      have kq1 := blk_ex x3 kq
      cases bq
      · go_wp2_with (first | (refine wpList_load_row rfl 61 _ rfl q rfl _ _ _ _ kq1 Tryz.underlying61 rfl (by kernel_rfl) ?_) | (refine wpList_load_row rfl 61 _ rfl (q + 1) rfl _ _ _ _ kq2 Tryz.underlying61 rfl (by kernel_rfl) ?_) | (go_at_call 58; refine (msame_at hq.it (a1.ex (ex_trans x2 x3)) (a2.ex (ex_trans x2 x3)) f1 f2).mono ?_; rintro e w' ⟨rfl, nx, rfl⟩))
        go_ret
        exact ⟨by rw [← hv.it, same_not (k := k) (by omega) hq.it]; rfl, ex_trans (ex_trans (ex_trans hx x2) x3) sk9⟩
      · go_wp2_with (first | (refine wpList_load_row rfl 61 _ rfl q rfl _ _ _ _ kq1 Tryz.underlying61 rfl (by kernel_rfl) ?_) | (refine wpList_load_row rfl 61 _ rfl (q + 1) rfl _ _ _ _ kq2 Tryz.underlying61 rfl (by kernel_rfl) ?_) | (go_at_call 58; refine (msame_at hq.it (a1.ex (ex_trans x2 x3)) (a2.ex (ex_trans x2 x3)) f1 f2).mono ?_; rintro e w' ⟨rfl, nx, rfl⟩))
        go_roundw
        case rel => exact ⟨k + 1, by omega, by go_num, upto_succ9 hs' hq.it, ex_trans (ex_trans (ex_trans hx x2) x3) sk9⟩
        case measure => simp [intOf]; omega
    · have ik : ¬ (k : Int) < (n : Int) := by omega
      obtain rfl : n = k := by omega
      have hall : sameL sameMs ms0 ns ns2 = true := same_all (by omega) (fun j hj => hs' j (by omega))
      go_wp2
      go_ret
      exact ⟨by rw [← hv.it, hall]; rfl, ex_trans hx sk9⟩

end

section


open Go.RowKit Go.ChangeShapes Go.WideShapes Go.ChangeAt

set_option linter.unusedSimpArgs false

set_option linter.unusedVariables false

attribute [local go_sem] plus_size plus_drew dn_set dn_alloc dn_plus plus_dn cell_plus frozen_plus set_plus cell_alloc frozen_alloc set_alloc

theorem lsameT_at {w : World} {h h2 : TH} {t t2 : Tp} {b : Bool} (hb : sameTp t t2 = b) (a : TexAt w h t) (a2 : TexAt w h2 t2) : Calls Tryz.prog 60 #[.agg (fTh h).toArray, .agg (fTh h2).toArray] w fun e w' => e = .returned (.bool b) ∧ ∃ y, w' = plus w y := by
  have hb' : sameT h.w h.h t.l h2.w h2.h t2.l = b := by rw [a.we, a.he, a2.we, a2.he]; exact hb
  exact tsame_is hb' a.tx.lay a2.tx.lay a.tx.le a2.tx.le

set_option maxRecDepth 100000 in
set_option maxHeartbeats 4000000 in
theorem eqfT_calls (ao ao2 : Option Addr) (n n2 cap cap2 : Nat) (hs hs2 : List TH) (ns ns2 : List Tp) (w : World) (hn : n ≤ 100000) (hl : Lay fTh w ao n hs) (hl2 : Lay fTh w ao2 n2 hs2) (hA : TexsAt w hs ns) (hA2 : TexsAt w hs2 ns2) (hf : ∀ k, k < ns.length → FewTp (nth tp0 ns k)) (hf2 : ∀ k, k < ns2.length → FewTp (nth tp0 ns2 k)) {v : Bool} (hv : sameL sameTp tp0 ns ns2 = v) :
    Calls Tryz.prog 59 #[.slice ao n cap, .slice ao2 n2 cap2, .func (.func 60) #[] #[]] w fun e w' => e = .returned (.bool v) ∧ ∃ y, w' = plus w y := by
  have hlen := hl.len
  have hlen2 := hl2.len
  have alen := hA.len
  have alen2 := hA2.len
  by_cases hne : n = n2
  rotate_left
  · have dne : ((n : Int) == (n2 : Int)) = false := by rw [beq_eq_false_iff_ne]; omega
    rw [same_len (by omega)] at hv
    subst hv
    go_enter Tryz.func59, Tryz.ntmps59
    go_wp2
    go_ret
    exact ⟨rfl, sk9⟩
  subst hne
  replace hv := Hush9.mk hv
  go_enter Tryz.func59, Tryz.ntmps59
  go_wp2
  go_loopw [17] (fun i wr => ∃ k : Nat, k ≤ n ∧ i = .int .i64 k ∧ (∀ j, j < k → sameTp (nth tp0 ns j) (nth tp0 ns2 j) = true) ∧ ∃ y, wr = plus w y) (fun i _ => n - (intOf i).toNat)
  case atStart => exact ⟨0, Nat.zero_le _, rfl, fun j hj => by omega, sk9⟩
  case round =>
    obtain ⟨k, hk, rfl, hs', hx⟩ := hrel
    by_cases hkl : k < n
    · have ik : (k : Int) < (n : Int) := by omega
      obtain ⟨g1, o1, rfl, hg1, hc1⟩ := hl.some (by omega)
      obtain ⟨g2, o2, rfl, hg2, hc2⟩ := hl2.some (by omega)
      have hp := Hush9.mk (lay_part (d := th0) hlen fTh_c hc1 hkl)
      have hp2 := Hush9.mk (lay_part (d := th0) hlen2 fTh_c hc2 hkl)
      have a1 := (hA.one k (by omega)).ex hx
      have a2 := (hA2.one k (by omega)).ex hx
      have f1 := hf k (by omega)
      have f2 := hf2 k (by omega)
      obtain ⟨bq, hq⟩ : ∃ b, sameTp (nth tp0 ns k) (nth tp0 ns2 k) = b := ⟨_, rfl⟩
      replace hq := Hush9.mk hq
      obtain ⟨q, hqs⟩ : ∃ q, wr.heap.size = q := ⟨_, rfl⟩
      clear hc1 hc2
      go_upto_region 6 with (first | (refine wpList_load_part rfl 64 _ rfl g1 (o1 + k * 3) rfl (fTh (nth th0 hs k)) _ (fun j v hj => cell_ex (ex_trans hx sk9) (hp.it j v hj)) Tryz.underlying64 rfl (by kernel_rfl) ?_; simp only [Act.put, List.setIfInBounds_toArray, List.set_cons_succ, List.set_cons_zero]) | (refine wpList_store_box rfl 64 _ _ rfl q (fTh (nth th0 hs k)) (by simp [go_sem, hqs]) rfl _ _ (by rw [← hqs]; exact blk_new2 _ _) (by kernel_rfl) (by kernel_rfl) (fTh_1 _) ?_))
      refine name_w (fun w' => (∃ y, w' = plus wr y) ∧ w'.heap[q]? = some (.cells (fTh (nth th0 hs k)).toArray 64) ∧ w'.heap.size = q + 1) ⟨ex_row_new sk9 (by omega), blk_row_eq (by rw [← hqs]; exact blk_new2 _ _), by rw [setRow_size, size_alloc, hqs]⟩ ?_
      try simp only [hqs]
      rintro w2 ⟨x2, kq, zq⟩
      go_upto_region 7 with (first | (refine wpList_load_part rfl 64 _ rfl g2 (o2 + k * 3) rfl (fTh (nth th0 hs2 k)) _ (fun j v hj => cell_ex (ex_trans (ex_trans hx x2) sk9) (hp2.it j v hj)) Tryz.underlying64 rfl (by kernel_rfl) ?_; simp only [Act.put, List.setIfInBounds_toArray, List.set_cons_succ, List.set_cons_zero]) | (refine wpList_store_box rfl 64 _ _ rfl (q + 1) (fTh (nth th0 hs2 k)) (by simp [go_sem, zq]) rfl _ _ (by rw [← zq]; exact blk_new2 _ _) (by kernel_rfl) (by kernel_rfl) (fTh_1 _) ?_))
      refine name_w (fun w' => (∃ y, w' = plus w2 y) ∧ w'.heap[q + 1]? = some (.cells (fTh (nth th0 hs2 k)).toArray 64)) ⟨ex_row_new sk9 (by omega), blk_row_eq (by rw [← zq]; exact blk_new2 _ _)⟩ ?_
      try simp only [zq]
      rintro w3 ⟨x3, kq2⟩
      have kq1 := blk_ex x3 kq
      cases bq
      · go_wp2_with (first | (refine wpList_load_row rfl 64 _ rfl q rfl _ _ _ _ kq1 Tryz.underlying64 rfl (by kernel_rfl) ?_) | (refine wpList_load_row rfl 64 _ rfl (q + 1) rfl _ _ _ _ kq2 Tryz.underlying64 rfl (by kernel_rfl) ?_) | (go_at_call 60; refine (lsameT_at hq.it (a1.ex (ex_trans x2 x3)) (a2.ex (ex_trans x2 x3))).mono ?_; rintro e w' ⟨rfl, nx, rfl⟩))
        go_ret
        exact ⟨by rw [← hv.it, same_not (k := k) (by omega) hq.it]; rfl, ex_trans (ex_trans (ex_trans hx x2) x3) sk9⟩
      · go_wp2_with (first | (refine wpList_load_row rfl 64 _ rfl q rfl _ _ _ _ kq1 Tryz.underlying64 rfl (by kernel_rfl) ?_) | (refine wpList_load_row rfl 64 _ rfl (q + 1) rfl _ _ _ _ kq2 Tryz.underlying64 rfl (by kernel_rfl) ?_) | (go_at_call 60; refine (lsameT_at hq.it (a1.ex (ex_trans x2 x3)) (a2.ex (ex_trans x2 x3))).mono ?_; rintro e w' ⟨rfl, nx, rfl⟩))
        go_roundw
        case rel => exact ⟨k + 1, by omega, by go_num, upto_succ9 hs' hq.it, ex_trans (ex_trans (ex_trans hx x2) x3) sk9⟩
        case measure => simp [intOf]; omega
    · have ik : ¬ (k : Int) < (n : Int) := by omega
      obtain rfl : n = k := by omega
      have hall : sameL sameTp tp0 ns ns2 = true := same_all (by omega) (fun j hj => hs' j (by omega))
      go_wp2
      go_ret
      exact ⟨by rw [← hv.it, hall]; rfl, ex_trans hx sk9⟩

end

section


open Go.RowKit Go.ChangeShapes Go.WideShapes Go.ChangeAt

set_option linter.unusedSimpArgs false

set_option linter.unusedVariables false

attribute [local go_sem] plus_size plus_drew dn_set dn_alloc dn_plus plus_dn cell_plus frozen_plus set_plus cell_alloc frozen_alloc set_alloc

set_option maxHeartbeats 2000000 in
theorem lcheck_calls (ao : Option Addr) (n cap : Nat) (l : List Sl) (w : World) (hl : Lay fS w ao n l) (hn : n ≤ 9223372036854775807) :
    Calls Tryz.prog 128 #[.agg #[.slice ao n cap]] w fun e w' => e = .returned (.int .i64 (allErr l)) ∧ Below w.heap.size w w' := by
  have hlen := hl.len
  by_cases h3 : n ≤ 128
  rotate_left
  · have i3 : (128 : Int) < (n : Int) := by omega
    have hno : allErr l = 8 := by rw [allErr, if_neg]; simp [arOk]; omega
    rw [hno]
    go_enter Tryz.func128, Tryz.ntmps128
    go_wp2
    go_ret
    exact ⟨rfl, by with_reducible repeat (first | exact Below.refl _ _ | apply ba | apply bp | apply bd | apply bn)⟩
  have i3 : ¬ (128 : Int) < (n : Int) := by omega
  have d3 := decide_eq_false i3
  go_enter Tryz.func128, Tryz.ntmps128
  go_wp2
  go_loopw [12] (fun i wr => ∃ k : Nat, k ≤ n ∧ i = .int .i64 k ∧ (∀ j, j < k → slOk (nth dSl l j) = true) ∧ ∃ x, wr = plus (w.alloc (.cells #[.slice ao n cap] 24)) x) (fun i _ => n - (intOf i).toNat)
  case atStart => exact ⟨0, Nat.zero_le _, rfl, fun j hj => by omega, sk0⟩
  case round =>
    obtain ⟨k, hk, rfl, hs, x, rfl⟩ := hrel
    by_cases hkl : k < n
    · obtain ⟨g, off, rfl, hg, hcell⟩ := hl.some (by omega)
      obtain ⟨c0, c1⟩ := cellS hlen hcell hkl
      have ik : (k : Int) < (n : Int) := by omega
      by_cases h1 : (nth dSl l k).gen < 1
      · have hno : arOk l = false := by rw [arOk, all_bad (d := dSl) (k := k) (by omega) (by simp [slOk]; omega), Bool.false_and]
        go_wp2
        go_ret
        exact ⟨by rw [allErr, hno]; rfl, by with_reducible repeat (first | exact Below.refl _ _ | apply ba | apply bp | apply bd | apply bn)⟩
      have d1 := decide_eq_false h1
      by_cases h2 : 1073741824 < (nth dSl l k).gen
      · have hno : arOk l = false := by rw [arOk, all_bad (d := dSl) (k := k) (by omega) (by simp [slOk]; omega), Bool.false_and]
        go_wp2
        go_ret
        exact ⟨by rw [allErr, hno]; rfl, by with_reducible repeat (first | exact Below.refl _ _ | apply ba | apply bp | apply bd | apply bn)⟩
      · have d2 := decide_eq_false h2
        have hok : slOk (nth dSl l k) = true := by simp [slOk]; omega
        go_wp2
        go_roundw
        case rel => exact ⟨k + 1, by omega, by go_num, upto_succ hs hok, sk0⟩
        case measure => simp [intOf]; omega
    · have ik : ¬ (k : Int) < (n : Int) := by omega
      have hall : l.all slOk = true := all_yes (d := dSl) (fun j hj => hs j (by omega))
      go_wp2
      go_ret
      exact ⟨by rw [allErr, arOk, hall, hlen, decide_eq_true h3]; rfl, by with_reducible repeat (first | exact Below.refl _ _ | apply ba | apply bp | apply bd | apply bn)⟩

theorem lslotOf_calls (s g : Int) (w : World) : Calls Tryz.prog 168 #[.agg #[.int .i64 s, .int .i64 g]] w fun e w' => e = .returned (.agg #[.int .i64 g, .bool true]) ∧ Below w.heap.size w w' := by
  go_enter Tryz.func168, Tryz.ntmps168
  go_wp2
  exact bodyPost_ret (v := .agg #[.int .i64 g, .bool true]) (by simp [results, Tryz.results168, go_sem, ↓IntWalk.iteOmega]) rfl ⟨rfl, by with_reducible repeat (first | exact Below.refl _ _ | apply ba | apply bp | apply bd | apply bn)⟩

set_option maxRecDepth 100000 in
set_option maxHeartbeats 2000000 in
theorem lheld_calls (ao : Option Addr) (n cap : Nat) (l : List Sl) (s g : Int) (w : World) (hl : Lay fS w ao n l) (hn : n ≤ 9223372036854775807) :
    Calls Tryz.prog 129 #[.agg #[.slice ao n cap], .agg #[.int .i64 s, .int .i64 g]] w fun e w' => e = .returned (.bool (heldIn l s g)) ∧ Below w.heap.size w w' := by
  have hlen := hl.len
  by_cases h0 : 0 ≤ s
  rotate_left
  · rw [show heldIn l s g = false by simp [heldIn, h0]]
    have d0 : decide (0 ≤ s) = false := decide_eq_false h0
    go_enter Tryz.func129, Tryz.ntmps129
    go_wp2
    refine region_plus (by kernel_rfl) (by kernel_rfl) ?_
    (repeat (go_big_quiet_step ((go_at_call 168; exact plus_of (lslotOf_calls _ _ _)))))
    refine wpQuiet_nil ?_
    rintro _ ⟨x2, rfl⟩
    go_wp2
    go_ret
    exact ⟨rfl, by with_reducible repeat (first | exact Below.refl _ _ | apply ba | apply bp | apply bd | apply bn)⟩
  by_cases h1 : s < n
  rotate_left
  · rw [show heldIn l s g = false by simp [heldIn, hlen, h1]]
    have d1 : decide (s < (n : Int)) = false := decide_eq_false h1
    go_enter Tryz.func129, Tryz.ntmps129
    go_wp2
    refine region_plus (by kernel_rfl) (by kernel_rfl) ?_
    (repeat (go_big_quiet_step ((go_at_call 168; exact plus_of (lslotOf_calls _ _ _)))))
    refine wpQuiet_nil ?_
    rintro _ ⟨x2, rfl⟩
    go_wp2
    go_ret
    exact ⟨rfl, by with_reducible repeat (first | exact Below.refl _ _ | apply ba | apply bp | apply bd | apply bn)⟩
  obtain ⟨k, rfl⟩ : ∃ k : Nat, s = (k : Int) := ⟨s.toNat, by omega⟩
  obtain ⟨gm, off, rfl, hg, hcell⟩ := hl.some (by omega)
  obtain ⟨c0, c1⟩ := cellS hlen hcell (k := k) (by omega)
  by_cases h3 : (nth dSl l k).gen = g
  rotate_left
  · rw [show heldIn l k g = false by simp [heldIn, h3]]
    have d3 : ((nth dSl l k).gen == g) = false := by rw [beq_eq_false_iff_ne]; exact h3
    go_enter Tryz.func129, Tryz.ntmps129
    go_wp2
    refine region_plus (by kernel_rfl) (by kernel_rfl) ?_
    (repeat (go_big_quiet_step ((go_at_call 168; exact plus_of (lslotOf_calls _ _ _)))))
    refine wpQuiet_nil ?_
    rintro _ ⟨x2, rfl⟩
    go_wp2
    go_ret
    exact ⟨rfl, by with_reducible repeat (first | exact Below.refl _ _ | apply ba | apply bp | apply bd | apply bn)⟩
  cases h2 : (nth dSl l k).live
  · rw [show heldIn l k g = false by simp [heldIn, h2]]
    go_enter Tryz.func129, Tryz.ntmps129
    go_wp2
    refine region_plus (by kernel_rfl) (by kernel_rfl) ?_
    (repeat (go_big_quiet_step ((go_at_call 168; exact plus_of (lslotOf_calls _ _ _)))))
    refine wpQuiet_nil ?_
    rintro _ ⟨x2, rfl⟩
    go_wp2
    go_ret
    exact ⟨rfl, by with_reducible repeat (first | exact Below.refl _ _ | apply ba | apply bp | apply bd | apply bn)⟩
  · rw [show heldIn l k g = true by rw [held_spec, Int.toNat_natCast, hlen]; exact ⟨⟨h0, h1⟩, h2, h3⟩]
    go_enter Tryz.func129, Tryz.ntmps129
    go_wp2
    refine region_plus (by kernel_rfl) (by kernel_rfl) ?_
    (repeat (go_big_quiet_step ((go_at_call 168; exact plus_of (lslotOf_calls _ _ _)))))
    refine wpQuiet_nil ?_
    rintro _ ⟨x2, rfl⟩
    go_wp2
    go_ret
    exact ⟨rfl, by with_reducible repeat (first | exact Below.refl _ _ | apply ba | apply bp | apply bd | apply bn)⟩

theorem lholds_calls (ao : Option Addr) (n cap : Nat) (l : List Sl) (s g : Int) (w : World) (hl : Lay fS w ao n l) (hn : n ≤ 9223372036854775807) :
    Calls Tryz.prog 79 #[.agg #[.slice ao n cap], .agg #[.int .i64 s, .int .i64 g]] w fun e w' => e = .returned (.bool (holds l s g)) ∧ Below w.heap.size w w' := by
  cases ho : arOk l
  · rw [show holds l s g = false by rw [holds, ho, Bool.false_and]]
    have he : allErr l = 8 := by rw [allErr, ho]; rfl
    go_enter Tryz.func79, Tryz.ntmps79
    go_wp2_with (first | (go_at_call 128; refine (plus_post (lcheck_calls _ _ _ l _ (hl.ex sk0) (by omega))).mono ?_; rintro e w' ⟨rfl, nx, rfl⟩; rw [he]) | (go_at_call 129; refine (plus_post (lheld_calls _ _ _ l _ _ _ (hl.ex sk0) (by omega))).mono ?_; rintro e w' ⟨rfl, nx, rfl⟩))
    go_ret
    exact ⟨rfl, by with_reducible repeat (first | exact Below.refl _ _ | apply ba | apply bp | apply bd | apply bn)⟩
  · rw [show holds l s g = heldIn l s g by rw [holds, ho, Bool.true_and]]
    have he : allErr l = 0 := by rw [allErr, ho]; rfl
    go_enter Tryz.func79, Tryz.ntmps79
    go_wp2_with (first | (go_at_call 128; refine (plus_post (lcheck_calls _ _ _ l _ (hl.ex sk0) (by omega))).mono ?_; rintro e w' ⟨rfl, nx, rfl⟩; rw [he]) | (go_at_call 129; refine (plus_post (lheld_calls _ _ _ l _ _ _ (hl.ex sk0) (by omega))).mono ?_; rintro e w' ⟨rfl, nx, rfl⟩))
    go_ret
    exact ⟨rfl, by with_reducible repeat (first | exact Below.refl _ _ | apply ba | apply bp | apply bd | apply bn)⟩

end

section


open Go.RowKit Go.ChangeShapes Go.WideShapes Go.ChangeAt

set_option linter.unusedSimpArgs false

set_option linter.unusedVariables false

attribute [local go_sem] plus_size plus_drew dn_set dn_alloc dn_plus plus_dn cell_plus frozen_plus set_plus cell_alloc frozen_alloc set_alloc

theorem lfree_calls (ao : Option Addr) (n cap k : Nat) (l : List Sl) (w : World) (hl : Lay fS w ao n l) (hk : k < n) :
    Calls Tryz.prog 178 #[.slice ao n cap, .int .i64 k] w fun e w' => e = .returned (.bool (freeS (nth dSl l k))) ∧ Below w.heap.size w w' := by
  obtain ⟨g, off, rfl, hg, hcell⟩ := hl.some (by omega)
  obtain ⟨c0, c1⟩ := cellS hl.len hcell hk
  have ik : (k : Int) < (n : Int) := by omega
  cases hv : (nth dSl l k).live
  rotate_left
  · rw [show freeS (nth dSl l k) = false by simp [freeS, hv]]
    rw [hv] at c1
    go_enter Tryz.func178, Tryz.ntmps178
    go_wp2
    go_ret
    exact ⟨rfl, by with_reducible repeat (first | exact Below.refl _ _ | apply ba | apply bp | apply bd | apply bn)⟩
  rw [hv] at c1
  by_cases h2 : (nth dSl l k).gen < 1073741824
  · rw [show freeS (nth dSl l k) = true by simp [freeS, hv, h2]]
    go_enter Tryz.func178, Tryz.ntmps178
    go_wp2
    go_ret
    exact ⟨rfl, by with_reducible repeat (first | exact Below.refl _ _ | apply ba | apply bp | apply bd | apply bn)⟩
  · rw [show freeS (nth dSl l k) = false by simp [freeS, h2]]
    have d2 := decide_eq_false h2
    go_enter Tryz.func178, Tryz.ntmps178
    go_wp2
    go_ret
    exact ⟨rfl, by with_reducible repeat (first | exact Below.refl _ _ | apply ba | apply bp | apply bd | apply bn)⟩

set_option maxHeartbeats 2000000 in
theorem lfirst_calls (ao : Option Addr) (n cap : Nat) (l : List Sl) (w : World) (hl : Lay fS w ao n l) (hn : n ≤ 10000) :
    Calls Tryz.prog 177 #[.func (.func 178) #[.slice ao n cap] #[], .int .i64 n] w fun e w' => e = .returned (.int .i64 (freeAt l)) ∧ Below w.heap.size w w' := by
  have hlen := hl.len
  go_enter Tryz.func177, Tryz.ntmps177
  go_wp2
  go_loopw [7] (fun i wr => ∃ k : Nat, k ≤ n ∧ i = .int .i64 k ∧ (∀ j, j < k → freeS (nth dSl l j) = false) ∧ ∃ x, wr = plus w x) (fun i _ => n - (intOf i).toNat)
  case atStart => exact ⟨0, Nat.zero_le _, rfl, fun j hj => by omega, sk0⟩
  case round =>
    obtain ⟨k, hk, rfl, hs, x, rfl⟩ := hrel
    by_cases hkl : k < n
    · have ik : (k : Int) < (n : Int) := by omega
      cases hf : freeS (nth dSl l k)
      · go_wp2_with (go_at_call 178; refine (plus_post (lfree_calls _ _ _ _ l _ (hl.ex sk0) hkl)).mono ?_; rintro e w' ⟨rfl, nx, rfl⟩; rw [hf])
        go_roundw
        case rel => exact ⟨k + 1, by omega, by go_num, upto_succ hs hf, sk0⟩
        case measure => simp [intOf]; omega
      · have hfa : freeAt l = k := freeAt_is (by omega) hs (fun _ => hf)
        go_wp2_with (go_at_call 178; refine (plus_post (lfree_calls _ _ _ _ l _ (hl.ex sk0) hkl)).mono ?_; rintro e w' ⟨rfl, nx, rfl⟩; rw [hf])
        go_ret
        exact ⟨by first | rfl | (rw [hfa]; rfl), by with_reducible repeat (first | exact Below.refl _ _ | apply ba | apply bp | apply bd | apply bn)⟩
    · have ik : ¬ (k : Int) < (n : Int) := by omega
      have hfa : freeAt l = n := freeAt_is (by omega) (fun j hj => hs j (by omega)) (fun h => by omega)
      go_wp2
      go_ret
      exact ⟨by first | rfl | (rw [hfa]; rfl), by with_reducible repeat (first | exact Below.refl _ _ | apply ba | apply bp | apply bd | apply bn)⟩

set_option maxHeartbeats 2000000 in
theorem equalS_calls (ao ao2 : Option Addr) (n n2 cap cap2 : Nat) (l l2 : List Sl) (w : World) (hl : Lay fS w ao n l) (hl2 : Lay fS w ao2 n2 l2) (hn : n ≤ 10000) (hn2 : n2 ≤ 10000) :
    Calls Tryz.prog 153 #[.slice ao n cap, .slice ao2 n2 cap2] w fun e w' => e = .returned (.bool (sameS l l2)) ∧ Below w.heap.size w w' := by
  have hlen := hl.len
  have hlen2 := hl2.len
  by_cases hne : n = n2
  rotate_left
  · rw [show sameS l l2 = false from same_len (by omega)]
    have ine : ¬ (n : Int) = (n2 : Int) := by omega
    have dne : ((n : Int) == (n2 : Int)) = false := by rw [beq_eq_false_iff_ne]; omega
    go_enter Tryz.func153, Tryz.ntmps153
    go_wp2
    go_ret
    exact ⟨rfl, by with_reducible repeat (first | exact Below.refl _ _ | apply ba | apply bp | apply bd | apply bn)⟩
  subst hne
  go_enter Tryz.func153, Tryz.ntmps153
  go_wp2
  go_loopw [13] (fun i wr => ∃ k : Nat, k ≤ n ∧ i = .int .i64 k ∧ (∀ j, j < k → eqS (nth dSl l j) (nth dSl l2 j) = true) ∧ ∃ x, wr = plus w x) (fun i _ => n - (intOf i).toNat)
  case atStart => exact ⟨0, Nat.zero_le _, rfl, fun j hj => by omega, sk0⟩
  case round =>
    obtain ⟨k, hk, rfl, hs, x, rfl⟩ := hrel
    by_cases hkl : k < n
    · obtain ⟨g, off, rfl, hg, hcell⟩ := hl.some (by omega)
      obtain ⟨g2, off2, rfl, hg2, hcell2⟩ := hl2.some (by omega)
      have ik : (k : Int) < (n : Int) := by omega
      obtain ⟨c0, c1⟩ := cellS hlen hcell hkl
      obtain ⟨d0, d1⟩ := cellS hlen2 hcell2 hkl
      by_cases q0 : (nth dSl l k).gen = (nth dSl l2 k).gen
      rotate_left
      · have dq : ((nth dSl l k).gen == (nth dSl l2 k).gen) = false := by simp [q0]
        go_wp2
        refine region_plus (by kernel_rfl) (by kernel_rfl) ?_
        (repeat (go_big_quiet_step (fail)))
        refine wpQuiet_nil ?_
        rintro _ ⟨x2, rfl⟩
        go_wp2
        go_ret
        exact ⟨by rw [show sameS l l2 = false from same_not (k := k) (by omega) (by simp [eqS, q0])]; rfl, by with_reducible repeat (first | exact Below.refl _ _ | apply ba | apply bp | apply bd | apply bn)⟩
      by_cases q1 : (nth dSl l k).live = (nth dSl l2 k).live
      rotate_left
      · have dq : ((nth dSl l k).live == (nth dSl l2 k).live) = false := by simp [q1]
        go_wp2
        refine region_plus (by kernel_rfl) (by kernel_rfl) ?_
        (repeat (go_big_quiet_step (fail)))
        refine wpQuiet_nil ?_
        rintro _ ⟨x2, rfl⟩
        go_wp2
        go_ret
        exact ⟨by rw [show sameS l l2 = false from same_not (k := k) (by omega) (by simp [eqS, q1])]; rfl, by with_reducible repeat (first | exact Below.refl _ _ | apply ba | apply bp | apply bd | apply bn)⟩
      go_wp2
      refine region_plus (by kernel_rfl) (by kernel_rfl) ?_
      (repeat (go_big_quiet_step (fail)))
      refine wpQuiet_nil ?_
      rintro _ ⟨x2, rfl⟩
      go_wp2
      go_roundw
      case rel => exact ⟨k + 1, by omega, by go_num, upto_succ hs (by simp [eqS, q0, q1]), sk0⟩
      case measure => simp [intOf]; omega
    · have ik : ¬ (k : Int) < (n : Int) := by omega
      go_wp2
      go_ret
      exact ⟨by rw [show sameS l l2 = true from same_all (by omega) (fun j hj => hs j (by omega))]; rfl, by with_reducible repeat (first | exact Below.refl _ _ | apply ba | apply bp | apply bd | apply bn)⟩

theorem lsame_calls (ao ao2 : Option Addr) (n n2 cap cap2 : Nat) (l l2 : List Sl) (w : World) (hl : Lay fS w ao n l) (hl2 : Lay fS w ao2 n2 l2) (hn : n ≤ 10000) (hn2 : n2 ≤ 10000) :
    Calls Tryz.prog 104 #[.agg #[.slice ao n cap], .agg #[.slice ao2 n2 cap2]] w fun e w' => e = .returned (.bool (sameS l l2)) ∧ Below w.heap.size w w' := by
  go_enter Tryz.func104, Tryz.ntmps104
  go_wp2_with (go_at_call 153; refine (plus_post (equalS_calls _ _ _ _ _ _ l l2 _ (hl.ex sk0) (hl2.ex sk0) hn hn2)).mono ?_; rintro e w' ⟨rfl, nx, rfl⟩)
  go_ret
  exact ⟨rfl, by with_reducible repeat (first | exact Below.refl _ _ | apply ba | apply bp | apply bd | apply bn)⟩

theorem ltwin_calls (ao : Option Addr) (n cap : Nat) (l : List Sl) (w : World) (hl : Lay fS w ao n l) (hn : n ≤ 10000) :
    Calls Tryz.prog 81 #[.agg #[.slice ao n cap]] w fun e w' => ∃ ao' cap', e = .returned (.agg #[.slice ao' n cap']) ∧ (∃ y, w' = plus w y) ∧ Own 86 2 fS w w' ao' n cap' l := by
  have hlen := hl.len
  obtain ⟨cur, hcur, hmk⟩ := run_make_lay kinS.info kinS.und n (by omega) (by decide)
  have hcp := run_copy_new (W := ((w.alloc (.cells #[.slice ao n cap] 24))).alloc (.cells #[.slice none 0 0] 24)) (g := w.heap.size + 1 + 1) (cap := n) (c2 := cap) (t2 := 22) (ty := 3) (ob := .cells #[.slice (some ⟨w.heap.size + 1 + 1, 0, none⟩) n n] 24) kinS fS_c fS_1 (by simp [go_sem]) (hl.ex sk0) hcur
  go_enter Tryz.func81, Tryz.ntmps81
  go_wp2
  exact bodyPost_ret (v := .agg #[.slice (some ⟨w.heap.size + 1 + 1, 0, none⟩) n n]) (by simp [results, Tryz.results81, go_sem, ↓IntWalk.iteOmega]) rfl ⟨some ⟨w.heap.size + 1 + 1, 0, none⟩, n, rfl, sk0, own_row hlen fS_c (by rw [blk_alloc, if_neg (by simp), blk_alloc, if_pos (by simp)]) (by omega) (by unfold maxLen; omega)⟩

end

end Go.Proofs.YtcekcihijdipoaaGreat
