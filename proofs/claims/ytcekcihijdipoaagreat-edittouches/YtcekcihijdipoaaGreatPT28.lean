/- A pack of texts: EdGrE, EdTl, EdOpC. -/
import Derived.Deep.DeepCutAuto
import Derived.Test.YtcekcihijdipoaaGreatPT20
import Derived.Test.YtcekcihijdipoaaGreatPT21
import Derived.Test.YtcekcihijdipoaaGreatPT27
import Derived.Test.YtcekcihijdipoaaGreatPT1
namespace Go.Proofs.YtcekcihijdipoaaGreat

section


open Go.RowKit Go.ChangeShapes Go.WideShapes Go.ChangeAt

set_option linter.unusedSimpArgs false

set_option linter.unusedVariables false

attribute [local go_sem] plus_size plus_drew dn_set dn_alloc dn_plus plus_dn cell_plus frozen_plus set_plus cell_alloc frozen_alloc set_alloc

def greatEd (e : EH) (ps : List PH) : Bool := greatBM e.mh.vn e.mh.un e.mh.pn ps || (greatT [e.th] || decide (200 < e.nd.n))

theorem one_le10 {h : TH} {N : Nat} (hle : h.n ≤ N) : ∀ k, k < 1 → (nth th0 [h] k).n ≤ N := by
  intro k hk
  obtain rfl : k = 0 := by omega
  exact hle

set_option maxRecDepth 100000 in
set_option maxHeartbeats 4000000 in
theorem rgreatE_calls (e : EH) (ps : List PH) (n : Nd) (m : Ms) (t : Tp) (w : World) (hE : EditAt w e ps n m t) {v : Bool} (hv : greatEd e ps = v) :
    Calls Tryz.prog 22 #[vE e] w fun e' w' => e' = .returned (.bool v) ∧ ∃ y, w' = plus w y := by
  have i23 : (fE e)[23]? = some (.slice e.nd.ao e.nd.n e.nd.cap) := rfl
  have i39 : (fE e)[39]? = some (.slice e.mh.va e.mh.vn e.mh.vc) := rfl
  have i40 : (fE e)[40]? = some (.slice e.mh.ua e.mh.un e.mh.uc) := rfl
  have i41 : (fE e)[41]? = some (.slice e.mh.pa e.mh.pn e.mh.pc) := rfl
  have i42 : (fE e)[42]? = some (.int .i64 e.th.w) := rfl
  have i43 : (fE e)[43]? = some (.int .i64 e.th.h) := rfl
  have i44 : (fE e)[44]? = some (.slice e.th.ao e.th.n e.th.cap) := rfl
  have hle := hE.th.tx.le
  show Calls Tryz.prog 22 #[.agg (fE e).toArray] w _
  obtain ⟨ce, hce⟩ : ∃ c, fE e = c := ⟨_, rfl⟩
  rw [hce] at i23 i39 i40 i41 i42 i43 i44 ⊢
  obtain ⟨g1, hg1⟩ : ∃ b, greatBM e.mh.vn e.mh.un e.mh.pn ps = b := ⟨_, rfl⟩
  obtain ⟨g2, hg2⟩ : ∃ b, greatT [e.th] = b := ⟨_, rfl⟩
  unfold greatEd at hv
  rw [hg1, hg2] at hv
  replace hv := Hush9.mk hv
  replace hg1 := Hush9.mk hg1
  replace hg2 := Hush9.mk hg2
  obtain ⟨q, hq⟩ : ∃ q, w.heap.size = q := ⟨_, rfl⟩
  go_enter Tryz.func22, Tryz.ntmps22
  go_upto_region 1 with fail
  refine name_w (fun w' => (∃ y, w' = plus w y) ∧ w'.heap[q]? = some (.cells ce.toArray 66)) ⟨sk9, hq ▸ blk_new2 _ _⟩ ?_
  try simp only [hq]
  rintro w1 ⟨x1, k1⟩
  have e39 := cell_of k1 i39
  have e40 := cell_of k1 i40
  have e41 := cell_of k1 i41
  have l1 := blk_lt k1
  have hM1 := hE.mh.ex x1
  cases g1
  rotate_left
  · go_wp2_with (first | (go_at_call 34; refine (plus_post (rgreatM_at (h := e.mh) (hM1.ex sk9))).mono ?_; rintro r w2 ⟨rfl, hw2⟩; simp only [hg1.it]; have e42 := cell_of (blk_ex hw2 k1) i42; have e43 := cell_of (blk_ex hw2 k1) i43; have e44 := cell_of (blk_ex hw2 k1) i44; have e23 := cell_of (blk_ex hw2 k1) i23; have l2 := cell_lt e42; have x12 := ex_trans x1 hw2) | (go_at_call 33; refine (rgreat9_calls _ 1 _ [e.th] _ (lay_one10 (f := fTh) (x := e.th) (e := 64) (blk_new2 _ _)) (by decide) (one_le10 hle)).mono ?_; rintro r w4 ⟨rfl, nx, rfl⟩; rw [hg2.it]))
    go_ret
    exact ⟨by rw [← hv.it]; simp [], ex_trans x1 (ex_trans hw2 sk9)⟩
  cases g2
  rotate_left
  · go_wp2_with (first | (go_at_call 34; refine (plus_post (rgreatM_at (h := e.mh) (hM1.ex sk9))).mono ?_; rintro r w2 ⟨rfl, hw2⟩; simp only [hg1.it]; have e42 := cell_of (blk_ex hw2 k1) i42; have e43 := cell_of (blk_ex hw2 k1) i43; have e44 := cell_of (blk_ex hw2 k1) i44; have e23 := cell_of (blk_ex hw2 k1) i23; have l2 := cell_lt e42; have x12 := ex_trans x1 hw2) | (go_at_call 33; refine (rgreat9_calls _ 1 _ [e.th] _ (lay_one10 (f := fTh) (x := e.th) (e := 64) (blk_new2 _ _)) (by decide) (one_le10 hle)).mono ?_; rintro r w4 ⟨rfl, nx, rfl⟩; rw [hg2.it]))
    go_ret
    exact ⟨by rw [← hv.it]; simp [], ex_trans x1 (ex_trans hw2 sk9)⟩
  by_cases hb : 200 < e.nd.n
  · have ib : (200 : Int) < (e.nd.n : Int) := by omega
    go_wp2_with (first | (go_at_call 34; refine (plus_post (rgreatM_at (h := e.mh) (hM1.ex sk9))).mono ?_; rintro r w2 ⟨rfl, hw2⟩; simp only [hg1.it]; have e42 := cell_of (blk_ex hw2 k1) i42; have e43 := cell_of (blk_ex hw2 k1) i43; have e44 := cell_of (blk_ex hw2 k1) i44; have e23 := cell_of (blk_ex hw2 k1) i23; have l2 := cell_lt e42; have x12 := ex_trans x1 hw2) | (go_at_call 33; refine (rgreat9_calls _ 1 _ [e.th] _ (lay_one10 (f := fTh) (x := e.th) (e := 64) (blk_new2 _ _)) (by decide) (one_le10 hle)).mono ?_; rintro r w4 ⟨rfl, nx, rfl⟩; rw [hg2.it]))
    go_ret
    exact ⟨by rw [← hv.it]; rw [decide_eq_true hb]; rfl, ex_trans x1 (ex_trans hw2 sk9)⟩
  · have ib : ¬ (200 : Int) < (e.nd.n : Int) := by omega
    go_wp2_with (first | (go_at_call 34; refine (plus_post (rgreatM_at (h := e.mh) (hM1.ex sk9))).mono ?_; rintro r w2 ⟨rfl, hw2⟩; simp only [hg1.it]; have e42 := cell_of (blk_ex hw2 k1) i42; have e43 := cell_of (blk_ex hw2 k1) i43; have e44 := cell_of (blk_ex hw2 k1) i44; have e23 := cell_of (blk_ex hw2 k1) i23; have l2 := cell_lt e42; have x12 := ex_trans x1 hw2) | (go_at_call 33; refine (rgreat9_calls _ 1 _ [e.th] _ (lay_one10 (f := fTh) (x := e.th) (e := 64) (blk_new2 _ _)) (by decide) (one_le10 hle)).mono ?_; rintro r w4 ⟨rfl, nx, rfl⟩; rw [hg2.it]))
    go_ret
    exact ⟨by rw [← hv.it]; rw [decide_eq_false hb]; show Ending.returned (.bool (decide (200 < (e.nd.n : Int)))) = _; rw [decide_eq_false (show ¬ (200 < (e.nd.n : Int)) by omega)]; rfl, ex_trans x1 (ex_trans hw2 sk9)⟩

end

section


open Go.RowKit Go.ChangeShapes Go.WideShapes Go.ChangeAt

set_option linter.unusedSimpArgs false

set_option linter.unusedVariables false

attribute [local go_sem] plus_size plus_drew dn_set dn_alloc dn_plus plus_dn cell_plus frozen_plus set_plus cell_alloc frozen_alloc set_alloc

def strip (h : SH) : SH := ⟨none, 0, 0, none, 0, 0, none, 0, 0, h.ma, h.mn, h.mc, h.ta, h.tn, h.tc, 0, 0⟩

def stripX (x : SX) : SX := ⟨[], [], x.mh, x.ph, x.th⟩

def stripS (s : Sc) : Sc := ⟨⟨[], []⟩, [], s.ms, s.ts, (0, 0)⟩

theorem strip_at {w : World} {h : SH} {x : SX} {s : Sc} (a : ScAt w h x s) : ScAt w (strip h) (stripX x) (stripS s) :=
  ⟨(sc0_at (w := w)).g, ⟨Lay.nil, ⟨rfl, fun k hk => by simp [stripX] at hk⟩, a.r.ml, a.r.ms, a.r.tl, a.r.ts, Nat.zero_le _, a.r.n2, a.r.n3, rfl⟩, ⟨Nat.zero_le _, Nat.zero_le _, fun k hk => by simp [stripS] at hk, Nat.zero_le _, a.f.mn, a.f.tn, fun k hk => by simp [stripS] at hk, a.f.ms, a.f.ts⟩⟩

def mH (a : Option Addr) (n c : Nat) : SH := ⟨none, 0, 0, none, 0, 0, none, 0, 0, a, n, c, none, 0, 0, 0, 0⟩

def tH (a : Option Addr) (n c : Nat) : SH := ⟨none, 0, 0, none, 0, 0, none, 0, 0, none, 0, 0, a, n, c, 0, 0⟩

theorem one_len {α : Type} {k : Nat} {x : α} (h : k < [x].length) : k = 0 := by simp at h; exact h

theorem mesh_one {w : World} {h : SH} {x : SX} {s : Sc} (a : ScAt w h x s) {g o c i : Nat} (hi : i < h.mn) (ha : h.ma = some ⟨g, o, none⟩) : ScAt w (mH (some ⟨g, o + i * 3, none⟩) 1 c) ⟨[], [], [nth mh0 x.mh i], [nth [] x.ph i], []⟩ ⟨⟨[], []⟩, [], [nth ms0 s.ms i], [], (0, 0)⟩ := by
  have z := sc0_at (w := w)
  have hm := a.mn
  obtain ⟨g', o', e, hg, hc⟩ := a.r.ml.some (by omega)
  rw [ha] at e
  cases e
  have hp := lay_part (d := mh0) hm.2 fMh_c hc hi
  refine ⟨z.g, ⟨Lay.nil, ⟨rfl, fun k hk => by simp at hk⟩, ⟨rfl, .inr ⟨_, _, rfl, hg, fun j u hu => hp j u (by simpa using hu)⟩⟩, ⟨rfl, fun k hk => ?_⟩, Lay.nil, ⟨rfl, fun k hk => by simp at hk⟩, Nat.zero_le _, (by show 1 ≤ _; omega), Nat.zero_le _, rfl⟩, ⟨Nat.zero_le _, Nat.zero_le _, fun k hk => by simp at hk, Nat.zero_le _, (by show 1 ≤ _; omega), Nat.zero_le _, fun k hk => by simp at hk, fun k hk => ?_, fun k hk => by simp at hk⟩⟩
  · obtain rfl := one_len hk
    exact a.r.ms.one i (by omega)
  · obtain rfl := one_len hk
    exact a.f.ms i (by omega)

theorem tex_one {w : World} {h : SH} {x : SX} {s : Sc} (a : ScAt w h x s) {g o c i : Nat} (hi : i < h.tn) (ha : h.ta = some ⟨g, o, none⟩) : ScAt w (tH (some ⟨g, o + i * 3, none⟩) 1 c) ⟨[], [], [], [], [nth th0 x.th i]⟩ ⟨⟨[], []⟩, [], [], [nth tp0 s.ts i], (0, 0)⟩ := by
  have z := sc0_at (w := w)
  have hm := a.tn
  obtain ⟨g', o', e, hg, hc⟩ := a.r.tl.some (by omega)
  rw [ha] at e
  cases e
  have hp := lay_part (d := th0) hm.2 fTh_c hc hi
  refine ⟨z.g, ⟨Lay.nil, ⟨rfl, fun k hk => by simp at hk⟩, Lay.nil, ⟨rfl, fun k hk => by simp at hk⟩, ⟨rfl, .inr ⟨_, _, rfl, hg, fun j u hu => hp j u (by simpa using hu)⟩⟩, ⟨rfl, fun k hk => ?_⟩, Nat.zero_le _, Nat.zero_le _, (by show 1 ≤ _; omega), rfl⟩, ⟨Nat.zero_le _, Nat.zero_le _, fun k hk => by simp at hk, Nat.zero_le _, Nat.zero_le _, (by show 1 ≤ _; omega), fun k hk => by simp at hk, fun k hk => by simp at hk, fun k hk => ?_⟩⟩
  · obtain rfl := one_len hk
    exact a.r.ts.one i (by omega)
  · obtain rfl := one_len hk
    exact a.f.ts i (by omega)

theorem greatE_is {e : EH} {ps : List PH} {n : Nd} {m : Ms} {t : Tp} {w : World} (hE : EditAt w e ps n m t) {v : Bool} (hv : greatEd e ps = v) : Calls Tryz.prog 22 #[.agg (fE e).toArray] w fun e' w' => e' = .returned (.bool v) ∧ ∃ y, w' = plus w y := rgreatE_calls e ps n m t w hE hv

end

section


open Go.RowKit Go.ChangeShapes Go.WideShapes Go.ChangeAt

section

variable {H : Type} {enc : TypeId × Value → H} {W : World} {base : Nat} {spare : Nat → Bool} {held : Bool}

theorem slice_cap {fuel n cap : Nat} {t e : TypeId} {ao : Option Addr} {x : DataW H × List MemPlace} (ht : Tryz.prog.underlying t = some (.slice e)) (h : DataW.trod enc Tryz.prog W base spare held fuel t [.slice ao n cap] = some x) : n ≤ cap := by
  rcases Go.Deep.open_slice ht h with ⟨h0, _⟩ | ⟨a, len, cap', m, n', D, Pl, h0, hb, hl, hm, hmm, _, hall⟩
  · simp only [List.cons.injEq, and_true, Value.slice.injEq] at h0
    omega
  · simp only [List.cons.injEq, and_true, Value.slice.injEq] at h0
    omega

set_option maxRecDepth 100000 in
theorem scene_caps {hh : SH} {d : DataW H} {p : List MemPlace} (h : DataW.Trod enc Tryz.prog W base spare held 34 (vS hh) d p) : hh.mn ≤ hh.mc ∧ hh.tn ≤ hh.tc := by
  obtain ⟨fuel, h⟩ := h
  have h' : DataW.trod enc Tryz.prog W base spare held fuel 34 [.slice hh.ga hh.gn hh.gc, .slice hh.ka hh.kn hh.kc, .slice hh.na hh.nn hh.nc, .slice hh.ma hh.mn hh.mc, .slice hh.ta hh.tn hh.tc, .int .i64 hh.r0, .int .i64 hh.r1] = some (d, p) := by simpa [Value.cells, vS] using h
  obtain ⟨xs, m, _, hx, _, hxl, hall⟩ := DataW.trod_struct Tryz.underlying34 h'
  have k0 : Tryz.prog.cellsOf 27 = 2 := by kernel_rfl
  have k1 : Tryz.prog.cellsOf 28 = 1 := by kernel_rfl
  have k2 : Tryz.prog.cellsOf 29 = 1 := by kernel_rfl
  have k3 : Tryz.prog.cellsOf 30 = 1 := by kernel_rfl
  have k4 : Tryz.prog.cellsOf 32 = 2 := by kernel_rfl
  match xs, hxl, hall, hx with
  | [y0, y1, y2, y3, y4], _, hall, hx =>
    have g2 : DataW.trod enc Tryz.prog W base spare held m 29 [.slice hh.ma hh.mn hh.mc] = some y2 := by simpa [k2] using hall 2 _ rfl
    have g3 : DataW.trod enc Tryz.prog W base spare held m 30 [.slice hh.ta hh.tn hh.tc] = some y3 := by simpa [k3] using hall 3 _ rfl
    exact ⟨slice_cap Tryz.underlying29 g2, slice_cap Tryz.underlying30 g3⟩

end

end

end Go.Proofs.YtcekcihijdipoaaGreat
