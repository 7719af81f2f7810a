/- A pack of texts: EdOpen2, EdOpen3, EdPut, EdDo1, EdMap, EdDo2, EdTk, Nodes10, Nodes11. -/
import Derived.Great.BuildSlice
import Derived.Deep.DeepCutAuto
import Derived.Maps.OwnSet
import Derived.Test.YtcekcihijdipoaaGreatPT20
import Derived.Test.YtcekcihijdipoaaGreatPT19
import Derived.Test.YtcekcihijdipoaaGreatPT14
import Derived.Test.YtcekcihijdipoaaGreatPT13
import Derived.Test.YtcekcihijdipoaaGreatPT16
namespace Go.Proofs.YtcekcihijdipoaaGreat

section


open Go.RowKit Go.Deep Go.ChangeShapes Go.WideShapes Go.ChangeAt

set_option linter.unusedSimpArgs false

set_option linter.unusedVariables false

attribute [local go_sem] plus_size plus_drew dn_set dn_alloc dn_plus plus_dn cell_plus frozen_plus set_plus cell_alloc frozen_alloc set_alloc

section

variable {H : Type} {enc : TypeId × Value → H} {W : World} {base : Nat} {spare : Nat → Bool} {held : Bool}

theorem mesh_cells {fuel : Nat} {x : DataW H × List MemPlace} {c0 c1 c2 : Value} (h : DataW.trod enc Tryz.prog W base spare held fuel 61 [c0, c1, c2] = some x) : ∃ hh ps m, [c0, c1, c2] = fMh hh ∧ MeshAt W hh ps m := by
  obtain ⟨y0, y1, y2, n, hx, _, h0, h1, h2⟩ := trod_struct3 Tryz.underlying61 h
  have k0 : Tryz.prog.cellsOf 57 = 1 := by kernel_rfl
  have k1 : Tryz.prog.cellsOf 58 = 1 := by kernel_rfl
  have k2 : Tryz.prog.cellsOf 59 = 1 := by kernel_rfl
  have t0 : DataW.trod enc Tryz.prog W base spare held n 57 [c0] = some y0 := by simpa [k0] using h0
  have t1 : DataW.trod enc Tryz.prog W base spare held n 58 [c1] = some y1 := by simpa [k1] using h1
  have t2 : DataW.trod enc Tryz.prog W base spare held n 59 [c2] = some y2 := by simpa [k2] using h2
  obtain ⟨a0, n0, e0, rfl, hn0, z0, o0⟩ := open_sl Tryz.underlying57 (c := 3) (by kernel_rfl) (by decide) t0
  obtain ⟨a1, n1, e1, rfl, hn1, z1, o1⟩ := open_sl Tryz.underlying58 (c := 2) (by kernel_rfl) (by decide) t1
  obtain ⟨a2, n2, e2, rfl, hn2, z2, o2⟩ := open_sl Tryz.underlying59 (c := 2) (by kernel_rfl) (by decide) t2
  obtain ⟨lv, hlv⟩ := lay_vecs (by kernel_rfl) o0
  obtain ⟨lu, hlu⟩ := lay_twos (by kernel_rfl) o1
  obtain ⟨hs', ps, hlp, hpp⟩ := lay_prims Tryz.underlying131 (by kernel_rfl) Tryz.underlying5 Tryz.underlying47 (by kernel_rfl) (by kernel_rfl) o2
  exact ⟨⟨a0, n0, e0, a1, n1, e1, a2, n2, e2⟩, hs', ⟨lv, lu, ps⟩, rfl, hn0, hn1, hn2, z0, z1, z2, hlv, hlu, hlp, hpp⟩

theorem lay_meshes {ao : Option Addr} {n : Nat} (h : RowsAt W ao n 3 (fun cs => ∃ m y, DataW.trod enc Tryz.prog W base spare held m 61 cs = some y)) : ∃ hs ps ms, Lay fMh W ao n hs ∧ MeshesAt W hs ps ms := by
  obtain ⟨l, hl, hR⟩ := lay_rows (f := fMh) (R := fun hh => ∃ q : List PH × Ms, MeshAt W hh q.1 q.2) mh0 (by decide) fMh_c h (by
    rintro cs hl ⟨m, y, hy⟩
    match cs, hl, hy with
    | [a, b, c], _, hy =>
      obtain ⟨hh, ps, m, e1, hp⟩ := mesh_cells hy
      exact ⟨hh, e1, (ps, m), hp⟩)
  have hR' : ∀ k, ∃ q : List PH × Ms, k < n → MeshAt W (nth mh0 l k) q.1 q.2 := by
    intro k
    by_cases hk : k < n
    · obtain ⟨p, hp⟩ := hR k hk
      exact ⟨p, fun _ => hp⟩
    · exact ⟨([], ms0), fun h => absurd h hk⟩
  refine ⟨l, (List.range n).map fun k => (Classical.choose (hR' k)).1, (List.range n).map fun k => (Classical.choose (hR' k)).2, hl, ⟨by simp [hl.len], fun k hk => ?_⟩⟩
  rw [hl.len] at hk
  rw [nth_range hk, nth_range hk]
  exact Classical.choose_spec (hR' k) hk

theorem lay_texs' {ao : Option Addr} {n : Nat} (h : RowsAt W ao n 3 (fun cs => ∃ m y, DataW.trod enc Tryz.prog W base spare held m 64 cs = some y)) : ∃ hs ts, Lay fTh W ao n hs ∧ TexsAt W hs ts := by
  obtain ⟨hs, ls, hl, hk⟩ := lay_texs Tryz.underlying64 (by kernel_rfl) Tryz.underlying3 Tryz.underlying3 Tryz.underlying62 (by kernel_rfl) (by kernel_rfl) h
  refine ⟨hs, (List.range n).map fun k => ⟨(nth th0 hs k).w, (nth th0 hs k).h, nth [] ls k⟩, hl, ⟨by simp [hl.len], fun k hk' => ?_⟩⟩
  have hkn : k < n := by rw [← hl.len]; exact hk'
  rw [nth_range hkn]
  exact ⟨rfl, rfl, hk.one k hk'⟩

theorem graph_cells {fuel : Nat} {x : DataW H × List MemPlace} {c0 c1 : Value} (hS : Sm Tryz.prog 27 x.1) (h : DataW.trod enc Tryz.prog W base spare held fuel 27 [c0, c1] = some x) :
    ∃ (ao : Option Addr) (n cap : Nat) (ko : Option Addr) (kn kcap : Nat) (hs : List RH) (g : Gr), c0 = .slice ao n cap ∧ c1 = .slice ko kn kcap ∧ GrIn W ao n ko kn hs g := by
  obtain ⟨y0, y1, n, hx1, _, h0, h1⟩ := trod_struct2 Tryz.underlying27 h
  have k0 : Tryz.prog.cellsOf 24 = 1 := by kernel_rfl
  have k1 : Tryz.prog.cellsOf 25 = 1 := by kernel_rfl
  have k2 : Tryz.prog.cellsOf 22 = 1 := by kernel_rfl
  have h0' : DataW.trod enc Tryz.prog W base spare held n 24 [c0] = some y0 := by simpa [k0] using h0
  have h1' : DataW.trod enc Tryz.prog W base spare held n 25 [c1] = some y1 := by simpa [k1] using h1
  rw [hx1] at hS
  have hS1 : Sm Tryz.prog 25 y1.1 := sm_field Tryz.underlying27 hS (j := 1) rfl rfl
  obtain ⟨y2, n', _, _, h2⟩ := trod_struct1 Tryz.underlying24 h0'
  have h2' : DataW.trod enc Tryz.prog W base spare held n' 22 [c0] = some y2 := by simpa [k2] using h2
  obtain ⟨ao, m, cap, rfl, hn, _, hor⟩ := open_sl Tryz.underlying22 (c := 2) (by kernel_rfl) (by decide) h2'
  obtain ⟨l, hl⟩ := lay_slots Tryz.underlying86 (by kernel_rfl) Tryz.underlying3 Tryz.underlying4 hor
  obtain ⟨ko, kn, kcap, rfl, hkn, _, _, _, hrows⟩ := open_slS Tryz.underlying25 (c := 1) (by kernel_rfl) (by decide) h1' hS1
  obtain ⟨hs', hlr, hR'⟩ := lay_rows (f := fR) (R := fun r => ∃ l : List (Int × Int), Lay f2 W r.ao r.n l ∧ r.n ≤ 8796093022208 ∧ r.n ≤ r.cap ∧ (r.ao = none → r.n = 0 ∧ r.cap = 0)) dRH (by decide) fR_c hrows (by
    rintro cs hl ⟨m, y, hy, hSy⟩
    match cs, hl, hy with
    | [a], _, hy => exact row_cells Tryz.underlying88 (by kernel_rfl) (by kernel_rfl) (by kernel_rfl) hy hSy)
  have hR'' : ∀ k, ∃ l : List (Int × Int), k < kn → Lay f2 W (nth dRH hs' k).ao (nth dRH hs' k).n l ∧ (nth dRH hs' k).n ≤ 8796093022208 ∧ (nth dRH hs' k).n ≤ (nth dRH hs' k).cap ∧ ((nth dRH hs' k).ao = none → (nth dRH hs' k).n = 0 ∧ (nth dRH hs' k).cap = 0) := by
    intro k
    by_cases hk : k < kn
    · obtain ⟨l, hl⟩ := hR' k hk
      exact ⟨l, fun _ => hl⟩
    · exact ⟨[], fun h => absurd h hk⟩
  have hlk := hlr.len
  refine ⟨ao, m, cap, ko, kn, kcap, hs', ⟨l, (List.range kn).map fun k => Classical.choose (hR'' k)⟩, rfl, rfl, ⟨hl, hlr, by simp [hlk], fun k hk => ?_, hn, hkn, fun k hk => ?_, fun k hk => ?_, fun k hk => ?_⟩⟩
  · rw [hlk] at hk
    show Lay f2 W _ _ (nth [] ((List.range kn).map fun k => Classical.choose (hR'' k)) k)
    rw [nth_range hk]
    exact (Classical.choose_spec (hR'' k) hk).1
  · exact (Classical.choose_spec (hR'' k) (by omega)).2.1
  · exact (Classical.choose_spec (hR'' k) (by omega)).2.2.1
  · exact (Classical.choose_spec (hR'' k) (by omega)).2.2.2

set_option maxRecDepth 100000 in
theorem scene_cells {fuel : Nat} {x : DataW H × List MemPlace} {cs : List Value} (hl : cs.length = 7) (hS : Sm Tryz.prog 34 x.1) (h : DataW.trod enc Tryz.prog W base spare held fuel 34 cs = some x) :
    ∃ hh sx s, Value.agg cs.toArray = vS hh ∧ GrIn W hh.ga hh.gn hh.ka hh.kn sx.gr s.g ∧ RestAt W hh sx s := by
  obtain ⟨xs, m, _, hx, _, hxl, hall⟩ := DataW.trod_struct Tryz.underlying34 h
  have k0 : Tryz.prog.cellsOf 27 = 2 := by kernel_rfl
  have k1 : Tryz.prog.cellsOf 28 = 1 := by kernel_rfl
  have k2 : Tryz.prog.cellsOf 29 = 1 := by kernel_rfl
  have k3 : Tryz.prog.cellsOf 30 = 1 := by kernel_rfl
  have k4 : Tryz.prog.cellsOf 32 = 2 := by kernel_rfl
  match xs, hxl, hall, hx with
  | [y0, y1, y2, y3, y4], _, hall, hx =>
  match cs, hl, hall with
  | [c0, c1, c2, c3, c4, c5, c6], _, hall =>
    have g0 : DataW.trod enc Tryz.prog W base spare held m 27 [c0, c1] = some y0 := by simpa [k0] using hall 0 _ rfl
    have g1 : DataW.trod enc Tryz.prog W base spare held m 28 [c2] = some y1 := by simpa [k1] using hall 1 _ rfl
    have g2 : DataW.trod enc Tryz.prog W base spare held m 29 [c3] = some y2 := by simpa [k2] using hall 2 _ rfl
    have g3 : DataW.trod enc Tryz.prog W base spare held m 30 [c4] = some y3 := by simpa [k3] using hall 3 _ rfl
    have g4 : DataW.trod enc Tryz.prog W base spare held m 32 [c5, c6] = some y4 := by simpa [k4] using hall 4 _ rfl
    rw [hx] at hS
    have hS0 : Sm Tryz.prog 27 y0.1 := sm_field Tryz.underlying34 hS (j := 0) rfl rfl
    obtain ⟨ga, gn, gc, ka, kn, kc, gr, g, rfl, rfl, hG⟩ := graph_cells hS0 g0
    obtain ⟨na, nn, nc, rfl, hn1, _, o1⟩ := open_sl Tryz.underlying28 (c := 33) (by kernel_rfl) (by decide) g1
    obtain ⟨ma, mn, mc, rfl, hn2, _, o2⟩ := open_sl Tryz.underlying29 (c := 3) (by kernel_rfl) (by decide) g2
    obtain ⟨ta, tn, tc, rfl, hn3, _, o3⟩ := open_sl Tryz.underlying30 (c := 3) (by kernel_rfl) (by decide) g3
    obtain ⟨nhs, ns, nl, hns⟩ := lay_nodes o1
    obtain ⟨mhs, ps, ms, ml, hms⟩ := lay_meshes o2
    obtain ⟨ths, ts, tl, hts⟩ := lay_texs' o3
    have hf := flat_ints 4 32 m _ _ (by kernel_rfl) g4
    obtain ⟨r0, rfl, _⟩ := hf c5 (by simp)
    obtain ⟨r1, rfl, _⟩ := hf c6 (by simp)
    exact ⟨⟨ga, gn, gc, ka, kn, kc, na, nn, nc, ma, mn, mc, ta, tn, tc, r0, r1⟩, ⟨gr, nhs, mhs, ps, ths⟩, ⟨g, ns, ms, ts, (r0, r1)⟩, rfl, hG, nl, hns, ml, hms, tl, hts, hn1, hn2, hn3, rfl⟩

set_option maxRecDepth 100000 in
theorem open_scene {r : Go.Reach} {b0 : Nat} {v : Value} {d : DataW H} {p : List MemPlace} (hS : Sm Tryz.prog 34 d) (hv : Value.okWide Tryz.prog W r b0 34 v) (h : DataW.Trod enc Tryz.prog W base spare held 34 v d p) :
    ∃ hh sx s, v = vS hh ∧ GrIn W hh.ga hh.gn hh.ka hh.kn sx.gr s.g ∧ RestAt W hh sx s := by
  obtain ⟨cs, rfl, hsz⟩ := okWide_struct Tryz.underlying34 hv
  have k : Tryz.prog.cellsOf 34 = 7 := by kernel_rfl
  obtain ⟨fuel, hx⟩ := h
  obtain ⟨hh, sx, s, e, h1, h2⟩ := scene_cells (cs := cs.toList) (by simpa using hsz.trans k) hS (by simpa [Value.cells] using hx)
  exact ⟨hh, sx, s, by simpa using e, h1, h2⟩

end

end

section


open Go.RowKit Go.Deep Go.ChangeShapes Go.WideShapes Go.ChangeAt

set_option linter.unusedSimpArgs false

set_option linter.unusedVariables false

attribute [local go_sem] plus_size plus_drew dn_set dn_alloc dn_plus plus_dn cell_plus frozen_plus set_plus cell_alloc frozen_alloc set_alloc

structure EH where
  kind : Int
  h0 : Int
  h1 : Int
  c0 : Int
  c1 : Int
  at' : Int
  nd : NH
  mh : MH
  th : TH

def fE (e : EH) : List Value := .int .u8 e.kind :: .int .i64 e.h0 :: .int .i64 e.h1 :: .int .i64 e.c0 :: .int .i64 e.c1 :: .int .i64 e.at' :: (fN e.nd ++ (fMh e.mh ++ fTh e.th))

def vE (e : EH) : Value := .agg (fE e).toArray

def eh0 : EH := ⟨0, 0, 0, 0, 0, 0, nh0, mh0, th0⟩

structure EditAt (w : World) (e : EH) (ps : List PH) (n : Nd) (m : Ms) (t : Tp) : Prop where
  kind : 0 ≤ e.kind ∧ e.kind ≤ 255
  nd : NodeAt w e.nd n
  mh : MeshAt w e.mh ps m
  th : TexAt w e.th t

theorem EditAt.ex {w w' : World} {e : EH} {ps : List PH} {n : Nd} {m : Ms} {t : Tp} (a : EditAt w e ps n m t) (hw : ∃ x, w' = plus w x) : EditAt w' e ps n m t := ⟨a.kind, a.nd.ex hw, a.mh.ex hw, a.th.ex hw⟩

section

variable {H : Type} {enc : TypeId × Value → H} {W : World} {base : Nat} {spare : Nat → Bool} {held : Bool}

set_option maxRecDepth 100000 in
set_option maxHeartbeats 4000000 in
theorem edit_cells {fuel : Nat} {x : DataW H × List MemPlace} {cs : List Value} (hl : cs.length = 45) (h : DataW.trod enc Tryz.prog W base spare held fuel 66 cs = some x) : ∃ e ps n m t, cs = fE e ∧ EditAt W e ps n m t := by
  obtain ⟨xs, m, _, _, _, hxl, hall⟩ := DataW.trod_struct Tryz.underlying66 h
  have k0 : Tryz.prog.cellsOf 5 = 1 := by kernel_rfl
  have k1 : Tryz.prog.cellsOf 32 = 2 := by kernel_rfl
  have k3 : Tryz.prog.cellsOf 3 = 1 := by kernel_rfl
  have k4 : Tryz.prog.cellsOf 56 = 33 := by kernel_rfl
  have k5 : Tryz.prog.cellsOf 61 = 3 := by kernel_rfl
  have k6 : Tryz.prog.cellsOf 64 = 3 := by kernel_rfl
  match xs, hxl, hall with
  | [y0, y1, y2, y3, y4, y5, y6], _, hall =>
  match cs, hl, hall with
  | c0 :: c1 :: c2 :: c3 :: c4 :: c5 :: c6 :: c7 :: c8 :: c9 :: c10 :: c11 :: c12 :: c13 :: c14 :: c15 :: c16 :: c17 :: c18 :: c19 :: c20 :: c21 :: c22 :: c23 :: c24 :: c25 :: c26 :: c27 :: c28 :: c29 :: c30 :: c31 :: c32 :: c33 :: c34 :: c35 :: c36 :: c37 :: c38 :: c39 :: c40 :: c41 :: c42 :: c43 :: c44 :: [], _, hall =>
    have g0 : DataW.trod enc Tryz.prog W base spare held m 5 [c0] = some y0 := by simpa [k0] using hall 0 _ rfl
    have g1 : DataW.trod enc Tryz.prog W base spare held m 32 [c1, c2] = some y1 := by simpa [k1] using hall 1 _ rfl
    have g2 : DataW.trod enc Tryz.prog W base spare held m 32 [c3, c4] = some y2 := by simpa [k1] using hall 2 _ rfl
    have g3 : DataW.trod enc Tryz.prog W base spare held m 3 [c5] = some y3 := by simpa [k3] using hall 3 _ rfl
    have g4 : DataW.trod enc Tryz.prog W base spare held m 56 (c6 :: c7 :: c8 :: c9 :: c10 :: c11 :: c12 :: c13 :: c14 :: c15 :: c16 :: c17 :: c18 :: c19 :: c20 :: c21 :: c22 :: c23 :: c24 :: c25 :: c26 :: c27 :: c28 :: c29 :: c30 :: c31 :: c32 :: c33 :: c34 :: c35 :: c36 :: c37 :: c38 :: []) = some y4 := by simpa [k4] using hall 4 _ rfl
    have g5 : DataW.trod enc Tryz.prog W base spare held m 61 [c39, c40, c41] = some y5 := by simpa [k5] using hall 5 _ rfl
    have g6 : DataW.trod enc Tryz.prog W base spare held m 64 [c42, c43, c44] = some y6 := by simpa [k6] using hall 6 _ rfl
    obtain ⟨kd, ek, _, wk⟩ := DataW.trod_int Tryz.underlying5 g0
    obtain rfl : c0 = .int .u8 kd := by simpa using ek
    have hf1 := flat_ints 4 32 m _ _ (by kernel_rfl) g1
    obtain ⟨a1, rfl, _⟩ := hf1 c1 (by simp)
    obtain ⟨a2, rfl, _⟩ := hf1 c2 (by simp)
    have hf2 := flat_ints 4 32 m _ _ (by kernel_rfl) g2
    obtain ⟨a3, rfl, _⟩ := hf2 c3 (by simp)
    obtain ⟨a4, rfl, _⟩ := hf2 c4 (by simp)
    obtain ⟨a5, e5, _, _⟩ := DataW.trod_int Tryz.underlying3 g3
    obtain rfl : c5 = .int .i64 a5 := by simpa using e5
    obtain ⟨nh, nd, en, hn⟩ := node_cells rfl g4
    obtain ⟨mh, ps, ms, em, hm⟩ := mesh_cells g5
    obtain ⟨th, l, et, ht⟩ := tex_cells Tryz.underlying64 (by kernel_rfl) Tryz.underlying3 Tryz.underlying3 Tryz.underlying62 (by kernel_rfl) (by kernel_rfl) rfl g6
    refine ⟨⟨kd, a1, a2, a3, a4, a5, nh, mh, th⟩, ps, nd, ms, ⟨th.w, th.h, l⟩, ?_, ⟨bounds_u8 wk, hn, hm, ⟨rfl, rfl, ht⟩⟩⟩
    unfold fE
    simp only []
    rw [← en, ← em, ← et]
    rfl

set_option maxRecDepth 100000 in
theorem open_edit {r : Go.Reach} {b0 : Nat} {v : Value} {d : DataW H} {p : List MemPlace} (hv : Value.okWide Tryz.prog W r b0 66 v) (h : DataW.Trod enc Tryz.prog W base spare held 66 v d p) : ∃ e ps n m t, v = vE e ∧ EditAt W e ps n m t := by
  obtain ⟨cs, fuel, x, rfl, hl, hx⟩ := open_agg (by kernel_rfl) hv h
  have k : Tryz.prog.cellsOf 66 = 45 := by kernel_rfl
  obtain ⟨e, ps, n, m, t, rfl, hn⟩ := edit_cells (hl.trans k) hx
  exact ⟨e, ps, n, m, t, rfl, hn⟩

end

end

section


open Go.RowKit Go.ChangeShapes Go.WideShapes Go.ChangeAt

set_option linter.unusedSimpArgs false

set_option linter.unusedVariables false

attribute [local go_sem] plus_size plus_drew dn_set dn_alloc dn_plus plus_dn cell_plus frozen_plus set_plus cell_alloc frozen_alloc set_alloc

theorem wpList_build_one {P : Program} {ops : Array Oper} {rest : List Oper} {o : Oper} {a : Act} {w : World} {Q : Exit → Act → World → Prop} (hg : o.guard = none) (t e : TypeId) (y : Operand) (ho : o.op = .buildSlice t 1 #[(0, y)]) (cs : List Value) (hy : a.eval y = .agg cs.toArray)
    (hu : P.underlying t = some (.slice e)) {z : Value} {c b : Nat} (hi : (P.info? e).map (fun i => (i.zero, i.size, i.bytes)) = some (some z, c, b)) (hc : cs.length = c) (h0 : 0 < c) (h1 : c ≤ 1000)
    (h : wpList P ops Q rest (a.put o.dst (.slice (some ⟨w.heap.size, 0, none⟩) 1 1)) (w.alloc (.cells cs.toArray e))) : wpList P ops Q (o :: rest) a w := by
  cases hq : P.info? e with
  | none => simp [hq] at hi
  | some i =>
    simp only [hq, Option.map_some, Option.some.injEq, Prod.mk.injEq] at hi
    obtain ⟨i1, i2, i3⟩ := hi
    refine wpList_buildSlice hg t e 1 _ ho cs.toArray i z hu hq i1 (by rw [i2]; omega) (by rw [i2]; omega) ?_ h
    have hsz : ((Array.range (1 * i.size)).map (z.cells[· % z.cells.size]!)).size = c := by simp [i2]
    generalize ((Array.range (1 * i.size)).map (z.cells[· % z.cells.size]!)) = Z at hsz ⊢
    have hf := fold_zip cs Z (by rw [hsz, hc])
    simp only [List.map_toArray, List.map_cons, List.map_nil, hy, Instr.fill, Value.cells, List.size_toArray, i2, hc, hsz]
    simpa using hf

theorem row_grown10 {w : World} {g : Nat} {cs : Array Value} : w.grownBy (w.setRow g cs) (some g) := ⟨rfl, rfl, rfl, by rw [setRow_size]; exact Nat.le_refl _, fun k _ hne => blk_row_ne (fun e => hne (by rw [e]))⟩

theorem grown_trans {w w1 w2 : World} {r : Option Nat} (h1 : w.grownBy w1 r) (h2 : w1.grownBy w2 r) : w.grownBy w2 r :=
  ⟨h2.os.trans h1.os, h2.tape.trans h1.tape, h2.output.trans h1.output, Nat.le_trans h1.size h2.size, fun k hk hne => (h2.block k (Nat.lt_of_lt_of_le hk h1.size) hne).trans (h1.block k hk hne)⟩

theorem grown_plus {w w1 : World} {r : Option Nat} (h : ∃ y, w1 = plus w y) : w.grownBy w1 r := by
  obtain ⟨y, rfl⟩ := h
  have hb := plus_below w y
  exact ⟨hb.os, hb.tape, hb.output, hb.size, fun k hk _ => hb.block k hk⟩

set_option maxRecDepth 100000 in
set_option maxHeartbeats 4000000 in
theorem putN_calls (T : World) (ao : Option Addr) (n cap : Nat) (hs : List NH) (k : Nat) (x : NH) (w : World) (hT : ∃ y, w = plus T y) (hO : Own 56 33 fN T w ao n cap hs) (hk : k ≤ n) (hn : n ≤ 1000) :
    Calls Tryz.prog 118 #[.slice ao n cap, .int .i64 k, .agg (fN x).toArray] w fun e w' => ∃ ao' n' cap', e = .returned (.slice ao' n' cap') ∧ (∃ y, w' = plus T y) ∧ Own 56 33 fN T w' ao' n' cap' (putAt hs k x) ∧ w.grownBy w' (Value.ownBlock (.slice ao n cap)) := by
  have hlen := hO.1
  obtain ⟨cs, hcs⟩ : ∃ cs, fN x = cs := ⟨_, rfl⟩
  have hc : cs.length = 33 := by rw [← hcs]; rfl
  have ac : cs.toArray.size = 33 := by simpa using hc
  have h1 : ∀ v ∈ cs, v.oneCell' = true := by rw [← hcs]; exact fN_1 x
  rw [hcs]
  obtain ⟨b, hb⟩ : ∃ b, w.heap.size = b := ⟨_, rfl⟩
  have hTb := size_ex hT
  by_cases hkn : k = n
  · subst hkn
    go_enter Tryz.func118, Tryz.ntmps118
    go_upto_region 1 with fail
    refine name_w (fun w' => (∃ y, w' = plus w y) ∧ w'.heap[b]? = some (.cells cs.toArray 56)) ⟨sk9, hb ▸ blk_new2 _ _⟩ ?_
    try simp only [hb]
    rintro w1 ⟨x1, k1⟩
    have hO1 := hO.ex x1
    go_wp2_with (first | (refine wpList_load_row rfl 56 _ rfl b rfl _ _ _ _ k1 Tryz.underlying56 rfl (by rw [ac]; kernel_rfl) ?_) | (refine wpList_build_one rfl 28 56 _ rfl cs rfl Tryz.underlying28 (z := .agg (fN nh0).toArray) (c := 33) (b := 224) (by kernel_rfl) hc (by decide) (by decide) ?_) | (at_builtin; refine wpList_append_lay2 (T := T) (l := hs) (l2 := [x]) rfl _ _ rfl kinNE fN_c fN_1 rfl (ex_trans hT (ex_trans x1 sk9)) (hO1.ex sk9) rfl (lay_one10 (by rw [hcs]; exact blk_new2 _ _)) (by omega) (by decide) ?_; intro ao' cap' w3 o3 hx3 hgr))
    go_ret
    refine ⟨_, _, _, rfl, hx3, ?_, grown_trans (grown_plus (ex_trans x1 sk9)) hgr⟩
    rw [show putAt hs k x = hs ++ [x] by unfold putAt; rw [if_neg (by omega)]]
    exact o3
  · have dk : ((k : Int) == (n : Int)) = false := by rw [beq_eq_false_iff_ne]; omega
    have ik : (k : Int) < (n : Int) := by omega
    obtain ⟨g, cur, rfl, hg, hbb, hsz⟩ := hO.blk (by omega)
    go_enter Tryz.func118, Tryz.ntmps118
    go_upto_region 1 with fail
    refine name_w (fun w' => (∃ y, w' = plus w y) ∧ w'.heap[b]? = some (.cells cs.toArray 56)) ⟨sk9, hb ▸ blk_new2 _ _⟩ ?_
    try simp only [hb]
    rintro w1 ⟨x1, k1⟩
    have hO1 := hO.ex x1
    have hbb1 := blk_ex x1 hbb
    have hset := hO1.set_row hbb1 (show k < n by omega) fN_c x
    rw [hcs] at hset
    have hfit := hset.2
    replace hset := Hush9.mk hset
    go_wp2_with (first | (refine wpList_load_row rfl 56 _ rfl b rfl _ _ _ _ k1 Tryz.underlying56 rfl (by rw [ac]; kernel_rfl) ?_) | (refine wpList_store_part rfl 56 _ _ rfl g (k * 33) cs (by simp [go_sem]) rfl _ cur hbb1 (by rw [hc]; kernel_rfl) hfit h1 ?_))
    go_ret
    refine ⟨_, _, _, rfl, ex_row_new (ex_trans hT x1) (by omega), ?_, grown_trans (grown_plus x1) row_grown10⟩
    rw [show putAt hs k x = hs.set k x by unfold putAt; rw [if_pos (by omega)]]
    exact hset.it.1

set_option maxRecDepth 100000 in
set_option maxHeartbeats 4000000 in
theorem putM_calls (T : World) (ao : Option Addr) (n cap : Nat) (hs : List MH) (k : Nat) (x : MH) (w : World) (hT : ∃ y, w = plus T y) (hO : Own 61 3 fMh T w ao n cap hs) (hk : k ≤ n) (hn : n ≤ 1000) :
    Calls Tryz.prog 126 #[.slice ao n cap, .int .i64 k, .agg (fMh x).toArray] w fun e w' => ∃ ao' n' cap', e = .returned (.slice ao' n' cap') ∧ (∃ y, w' = plus T y) ∧ Own 61 3 fMh T w' ao' n' cap' (putAt hs k x) ∧ w.grownBy w' (Value.ownBlock (.slice ao n cap)) := by
  have hlen := hO.1
  obtain ⟨cs, hcs⟩ : ∃ cs, fMh x = cs := ⟨_, rfl⟩
  have hc : cs.length = 3 := by rw [← hcs]; rfl
  have ac : cs.toArray.size = 3 := by simpa using hc
  have h1 : ∀ v ∈ cs, v.oneCell' = true := by rw [← hcs]; exact fMh_1 x
  rw [hcs]
  obtain ⟨b, hb⟩ : ∃ b, w.heap.size = b := ⟨_, rfl⟩
  have hTb := size_ex hT
  by_cases hkn : k = n
  · subst hkn
    go_enter Tryz.func126, Tryz.ntmps126
    go_upto_region 1 with fail
    refine name_w (fun w' => (∃ y, w' = plus w y) ∧ w'.heap[b]? = some (.cells cs.toArray 61)) ⟨sk9, hb ▸ blk_new2 _ _⟩ ?_
    try simp only [hb]
    rintro w1 ⟨x1, k1⟩
    have hO1 := hO.ex x1
    go_wp2_with (first | (refine wpList_load_row rfl 61 _ rfl b rfl _ _ _ _ k1 Tryz.underlying61 rfl (by rw [ac]; kernel_rfl) ?_) | (refine wpList_build_one rfl 29 61 _ rfl cs rfl Tryz.underlying29 (z := .agg (fMh mh0).toArray) (c := 3) (b := 72) (by kernel_rfl) hc (by decide) (by decide) ?_) | (at_builtin; refine wpList_append_lay2 (T := T) (l := hs) (l2 := [x]) rfl _ _ rfl kinME fMh_c fMh_1 rfl (ex_trans hT (ex_trans x1 sk9)) (hO1.ex sk9) rfl (lay_one10 (by rw [hcs]; exact blk_new2 _ _)) (by omega) (by decide) ?_; intro ao' cap' w3 o3 hx3 hgr))
    go_ret
    refine ⟨_, _, _, rfl, hx3, ?_, grown_trans (grown_plus (ex_trans x1 sk9)) hgr⟩
    rw [show putAt hs k x = hs ++ [x] by unfold putAt; rw [if_neg (by omega)]]
    exact o3
  · have dk : ((k : Int) == (n : Int)) = false := by rw [beq_eq_false_iff_ne]; omega
    have ik : (k : Int) < (n : Int) := by omega
    obtain ⟨g, cur, rfl, hg, hbb, hsz⟩ := hO.blk (by omega)
    go_enter Tryz.func126, Tryz.ntmps126
    go_upto_region 1 with fail
    refine name_w (fun w' => (∃ y, w' = plus w y) ∧ w'.heap[b]? = some (.cells cs.toArray 61)) ⟨sk9, hb ▸ blk_new2 _ _⟩ ?_
    try simp only [hb]
    rintro w1 ⟨x1, k1⟩
    have hO1 := hO.ex x1
    have hbb1 := blk_ex x1 hbb
    have hset := hO1.set_row hbb1 (show k < n by omega) fMh_c x
    rw [hcs] at hset
    have hfit := hset.2
    replace hset := Hush9.mk hset
    go_wp2_with (first | (refine wpList_load_row rfl 61 _ rfl b rfl _ _ _ _ k1 Tryz.underlying61 rfl (by rw [ac]; kernel_rfl) ?_) | (refine wpList_store_part rfl 61 _ _ rfl g (k * 3) cs (by simp [go_sem]) rfl _ cur hbb1 (by rw [hc]; kernel_rfl) hfit h1 ?_))
    go_ret
    refine ⟨_, _, _, rfl, ex_row_new (ex_trans hT x1) (by omega), ?_, grown_trans (grown_plus x1) row_grown10⟩
    rw [show putAt hs k x = hs.set k x by unfold putAt; rw [if_pos (by omega)]]
    exact hset.it.1

set_option maxRecDepth 100000 in
set_option maxHeartbeats 4000000 in
theorem putT_calls (T : World) (ao : Option Addr) (n cap : Nat) (hs : List TH) (k : Nat) (x : TH) (w : World) (hT : ∃ y, w = plus T y) (hO : Own 64 3 fTh T w ao n cap hs) (hk : k ≤ n) (hn : n ≤ 1000) :
    Calls Tryz.prog 127 #[.slice ao n cap, .int .i64 k, .agg (fTh x).toArray] w fun e w' => ∃ ao' n' cap', e = .returned (.slice ao' n' cap') ∧ (∃ y, w' = plus T y) ∧ Own 64 3 fTh T w' ao' n' cap' (putAt hs k x) ∧ w.grownBy w' (Value.ownBlock (.slice ao n cap)) := by
  have hlen := hO.1
  obtain ⟨cs, hcs⟩ : ∃ cs, fTh x = cs := ⟨_, rfl⟩
  have hc : cs.length = 3 := by rw [← hcs]; rfl
  have ac : cs.toArray.size = 3 := by simpa using hc
  have h1 : ∀ v ∈ cs, v.oneCell' = true := by rw [← hcs]; exact fTh_1 x
  rw [hcs]
  obtain ⟨b, hb⟩ : ∃ b, w.heap.size = b := ⟨_, rfl⟩
  have hTb := size_ex hT
  by_cases hkn : k = n
  · subst hkn
    go_enter Tryz.func127, Tryz.ntmps127
    go_upto_region 1 with fail
    refine name_w (fun w' => (∃ y, w' = plus w y) ∧ w'.heap[b]? = some (.cells cs.toArray 64)) ⟨sk9, hb ▸ blk_new2 _ _⟩ ?_
    try simp only [hb]
    rintro w1 ⟨x1, k1⟩
    have hO1 := hO.ex x1
    go_wp2_with (first | (refine wpList_load_row rfl 64 _ rfl b rfl _ _ _ _ k1 Tryz.underlying64 rfl (by rw [ac]; kernel_rfl) ?_) | (refine wpList_build_one rfl 30 64 _ rfl cs rfl Tryz.underlying30 (z := .agg (fTh th0).toArray) (c := 3) (b := 40) (by kernel_rfl) hc (by decide) (by decide) ?_) | (at_builtin; refine wpList_append_lay2 (T := T) (l := hs) (l2 := [x]) rfl _ _ rfl kinTE fTh_c fTh_1 rfl (ex_trans hT (ex_trans x1 sk9)) (hO1.ex sk9) rfl (lay_one10 (by rw [hcs]; exact blk_new2 _ _)) (by omega) (by decide) ?_; intro ao' cap' w3 o3 hx3 hgr))
    go_ret
    refine ⟨_, _, _, rfl, hx3, ?_, grown_trans (grown_plus (ex_trans x1 sk9)) hgr⟩
    rw [show putAt hs k x = hs ++ [x] by unfold putAt; rw [if_neg (by omega)]]
    exact o3
  · have dk : ((k : Int) == (n : Int)) = false := by rw [beq_eq_false_iff_ne]; omega
    have ik : (k : Int) < (n : Int) := by omega
    obtain ⟨g, cur, rfl, hg, hbb, hsz⟩ := hO.blk (by omega)
    go_enter Tryz.func127, Tryz.ntmps127
    go_upto_region 1 with fail
    refine name_w (fun w' => (∃ y, w' = plus w y) ∧ w'.heap[b]? = some (.cells cs.toArray 64)) ⟨sk9, hb ▸ blk_new2 _ _⟩ ?_
    try simp only [hb]
    rintro w1 ⟨x1, k1⟩
    have hO1 := hO.ex x1
    have hbb1 := blk_ex x1 hbb
    have hset := hO1.set_row hbb1 (show k < n by omega) fTh_c x
    rw [hcs] at hset
    have hfit := hset.2
    replace hset := Hush9.mk hset
    go_wp2_with (first | (refine wpList_load_row rfl 64 _ rfl b rfl _ _ _ _ k1 Tryz.underlying64 rfl (by rw [ac]; kernel_rfl) ?_) | (refine wpList_store_part rfl 64 _ _ rfl g (k * 3) cs (by simp [go_sem]) rfl _ cur hbb1 (by rw [hc]; kernel_rfl) hfit h1 ?_))
    go_ret
    refine ⟨_, _, _, rfl, ex_row_new (ex_trans hT x1) (by omega), ?_, grown_trans (grown_plus x1) row_grown10⟩
    rw [show putAt hs k x = hs.set k x by unfold putAt; rw [if_pos (by omega)]]
    exact hset.it.1

end

section


open Go.RowKit Go.ChangeShapes Go.WideShapes Go.ChangeAt

set_option linter.unusedSimpArgs false

set_option linter.unusedVariables false

attribute [local go_sem] plus_size plus_drew dn_set dn_alloc dn_plus plus_dn cell_plus frozen_plus set_plus cell_alloc frozen_alloc set_alloc

structure UwI (T w : World) (p : Nat) (h : SH) (x : SX) (s : Sc) : Prop where
  ex : ∃ y, w = plus T y
  own : ScOwn T w h x s
  bx : w.heap[p]? = some (.cells (scCells h).toArray 95)
  hp : T.heap.size ≤ p

theorem UwI.on {T w w' : World} {p : Nat} {h : SH} {x : SX} {s : Sc} (a : UwI T w p h x s) (hw : ∃ y, w' = plus w y) : UwI T w' p h x s := ⟨ex_trans a.ex hw, a.own.ex hw, blk_ex hw a.bx, a.hp⟩

theorem UwI.took {T w : World} {p g : Nat} {h : SH} {x : SX} {s : Sc} {cur cs : Array Value} (a : UwI T w p h x s) (hb : w.heap[g]? = some (.cells cur 36)) (hT : T.heap.size ≤ g) : UwI T (w.setRow g cs) p h x s :=
  ⟨ex_row_new a.ex hT, a.own.row_other hb (by decide), blk_row_far a.bx (fun e => by subst e; rw [a.bx] at hb; cases hb), a.hp⟩

def toEd (e : EH) (n : Nd) (m : Ms) (t : Tp) : Ed := ⟨e.kind, (e.h0, e.h1), (e.c0, e.c1), e.at', n, m, t⟩

def rootAs (h : SH) (a b : Int) : SH := ⟨h.ga, h.gn, h.gc, h.ka, h.kn, h.kc, h.na, h.nn, h.nc, h.ma, h.mn, h.mc, h.ta, h.tn, h.tc, a, b⟩

theorem ScOwn.withRoot {T w : World} {h : SH} {x : SX} {s : Sc} (a : ScOwn T w h x s) (r0 r1 : Int) : ScOwn T w (rootAs h r0 r1) x ⟨s.g, s.ns, s.ms, s.ts, (r0, r1)⟩ :=
  ⟨a.g, a.nl, a.nlen, a.ns, a.ml, a.mlen, a.ms, a.tl, a.tlen, a.ts, rfl, a.pl⟩

theorem results_two {P : Program} {fn : Func} {p q : Tmp} {ty : TypeId} (h : fn.results = #[.cell p ty, .tmp q]) (tmps : Array Value) (w : World) (g : Nat) (t : TypeId) (cs : Array Value) (fr : Nat × Nat) (d : TypeDesc) (v : Value)
    (hp : tmps.getD p undef = .pointer (some ⟨g, 0, none⟩)) (hq : tmps.getD q undef = v) (hg : w.heap[g]? = some (.cells cs t fr))
    (hu : P.underlying ty = some d) (hd : (match d with | .struct _ | .array _ _ => true | _ => false) = true) (hi : (P.info? ty).map (·.size) = some cs.size) :
    (results fn tmps).run P w = .ok (.tuple #[.agg cs, v]) w := by
  have hp' : tmps[p]?.getD undef = .pointer (some ⟨g, 0, none⟩) := by simpa using hp
  have hq' : tmps[q]?.getD undef = v := by simpa using hq
  simp [results, h, hp', hq', asAddr, run_loadVar_row w g t ty cs fr d hg hu hd hi]

def RetM10 (T : World) (p : Nat) (s' : Sc) (hs hg n er : Int) (e : Ending) (w' : World) : Prop :=
  e = .returned (.tuple #[.agg #[.int .i64 hs, .int .i64 hg, .int .i64 n], .int .i64 er]) ∧ (∃ y, w' = plus T y) ∧ (er = 0 → ∃ h' x', UwI T w' p h' x' s')

set_option maxRecDepth 100000 in
set_option maxHeartbeats 2000000 in
theorem holds_calls {T w : World} {p : Nat} {h : SH} {x : SX} {s : Sc} (I : UwI T w p h x s) (hok : arOk s.g.sl = true) (a0 a1 : Int) {v : Bool} (hv : heldIn s.g.sl a0 a1 = v) :
    Calls Tryz.prog 119 #[.pointer (some ⟨p, 0, none⟩), .agg #[.int .i64 a0, .int .i64 a1]] w fun e w' => e = .returned (.bool v) ∧ ∃ y, w' = plus w y := by
  have hl := I.own.g.sl
  have hn := hl.1
  have ha := arOk_len hok
  have hho : holds s.g.sl a0 a1 = v := by rw [holds, hok, hv]; rfl
  replace hho := Hush9.mk hho
  go_enter Tryz.func119, Tryz.ntmps119
  go_upto_region 1 with fail
  refine name_w (fun w' => (∃ y, w' = plus w y) ∧ w'.heap[w.heap.size]? = some (.cells #[.int .i64 a0, .int .i64 a1] 32)) ⟨sk9, blk_new2 _ _⟩ ?_
  rintro w1 ⟨x1, k1⟩
  have k0 := blk_ex x1 I.bx
  have c0 := cell_of (i := 0) k0 rfl
  have d0 : w1.cell? ⟨w.heap.size, 0, none⟩ = some (.int .i64 a0) := cell_blk k1 rfl
  have d1 : w1.cell? ⟨w.heap.size, 1, none⟩ = some (.int .i64 a1) := cell_blk k1 rfl
  have hl1 := hl.lay.ex x1
  have l0 := cell_lt c0
  have l1 := cell_lt d0
  refine region_plus (by kernel_rfl) (by kernel_rfl) ?_
  (repeat (go_big_quiet_step ((go_at_call 79; exact q9_of (plus_post (hho.it ▸ lholds_calls _ _ _ s.g.sl _ _ _ (hl1.ex sk9) (by omega)))))))
  refine wpQuiet_nil ?_
  rintro _ ⟨x2, rfl⟩
  go_wp2
  go_ret
  exact ⟨rfl, ex_trans x1 sk9⟩

set_option maxRecDepth 100000 in
set_option maxHeartbeats 4000000 in
theorem setRoot_calls {T w : World} {p : Nat} {h : SH} {x : SX} {s : Sc} (I : UwI T w p h x s) (hm : maySc s = true) (e : EH) (n : Nd) (m : Ms) (t : Tp) (hk : e.kind = 8) :
    Calls Tryz.prog 70 #[.pointer (some ⟨p, 0, none⟩), vE e] w fun r w' => RetM10 T p (edSc s (toEd e n m t)) 0 0 0 (edErr s (toEd e n m t)) r w' := by
  obtain ⟨hg, _, _, _, _⟩ := may_parts hm
  obtain ⟨hok, _, _, _⟩ := gr_parts hg
  have hl := I.own.g.sl
  have hn := hl.1
  have ha := arOk_len hok
  have he : edErr s (toEd e n m t) = if rootOk s (e.h0, e.h1) then 0 else 50 := by simp [edErr, toEd, hk]
  have hs : edSc s (toEd e n m t) = ⟨s.g, s.ns, s.ms, s.ts, (e.h0, e.h1)⟩ := by simp [edSc, toEd, hk]
  rw [he, hs]
  have i1 : (fE e)[1]? = some (.int .i64 e.h0) := rfl
  have i2 : (fE e)[2]? = some (.int .i64 e.h1) := rfl
  show Calls Tryz.prog 70 #[.pointer (some ⟨p, 0, none⟩), .agg (fE e).toArray] w _
  obtain ⟨ce, hce⟩ : ∃ c, fE e = c := ⟨_, rfl⟩
  rw [hce] at i1 i2 ⊢
  obtain ⟨b, hb⟩ : ∃ b, rootOk s (e.h0, e.h1) = b := ⟨_, rfl⟩
  rw [hb]
  have hb2 : (decide ((e.h0, e.h1) = ((0, 0) : Int × Int)) || heldIn s.g.sl e.h0 e.h1) = b := hb
  replace hb2 := Hush9.mk hb2
  obtain ⟨q, hq⟩ : ∃ q, w.heap.size = q := ⟨_, rfl⟩
  go_enter Tryz.func70, Tryz.ntmps70
  go_upto_region 1 with fail
  refine name_w (fun w' => (∃ y, w' = plus w y) ∧ w'.heap[q]? = some (.cells ce.toArray 66) ∧ w'.heap[q + 1]? = some (.cells #[.int .i64 0, .int .i64 0, .int .i64 0] 36)) ⟨sk9, hq ▸ blk_old (blk_new2 _ _), by rw [← hq, ← size_alloc w]; exact blk_new2 _ _⟩ ?_
  try simp only [hq]
  rintro w1 ⟨x1, k1, k2⟩
  have k0 := blk_ex x1 I.bx
  have c0 := cell_of (i := 0) k0 rfl
  have c1 := cell_of (i := 1) k0 rfl
  have c2 := cell_of (i := 2) k0 rfl
  have c3 := cell_of (i := 3) k0 rfl
  have c4 := cell_of (i := 4) k0 rfl
  have c5 := cell_of (i := 5) k0 rfl
  have c6 := cell_of (i := 6) k0 rfl
  have e1 := cell_of k1 i1
  have e2 := cell_of k1 i2
  have z5 := frozen_blk (i := 5) k0
  have z6 := frozen_blk (i := 6) k0
  have l0 := cell_lt c0
  have l1 := cell_lt e1
  have l2 := blk_lt k2
  have hl1 := hl.lay.ex x1
  have hpq : p ≠ q + 1 := by intro e0; rw [e0, k2] at k0; cases k0
  refine region_plus (by kernel_rfl) (by kernel_rfl) ?_
  (repeat (go_big_quiet_step ((go_at_call 31; exact q9_of (lroot_calls _ _ _ _ _ _ _ _ _ _ _ _ _ _ _ _ _ _ _ s.g.sl _ (hl1.ex sk9) (by omega) hok hb2.it)))))
  refine wpQuiet_nil ?_
  rintro _ ⟨x2, rfl⟩
  cases b
  · go_upto_region 2 with fail
    go_wp2_with (refine wpList_store_box rfl 36 (Operand.tmp 4) _ rfl (q + 1) [.int .i64 0, .int .i64 0, .int .i64 0] rfl rfl _ _ (blk_ex sk9 k2) (by kernel_rfl) rfl (by intro v hv; simp at hv; subst hv; rfl) ?_)
    exact bodyPost_ret (results_two Tryz.results70 _ _ (q + 1) 36 #[.int .i64 0, .int .i64 0, .int .i64 0] _ _ (.int .i64 50) rfl rfl (blk_row_eq (blk_ex sk9 k2)) Tryz.underlying36 rfl (by kernel_rfl)) rfl ⟨rfl, ex_row_new (ex_trans I.ex (ex_trans x1 sk9)) (by have := size_ex I.ex; omega), fun e0 => by cases e0⟩
  · go_upto_region 4 with fail
    refine name_w (fun w' => UwI T w' p (rootAs h e.h0 e.h1) x ⟨s.g, s.ns, s.ms, s.ts, (e.h0, e.h1)⟩ ∧ w'.heap[q + 1]? = some (.cells #[.int .i64 0, .int .i64 0, .int .i64 0] 36)) ⟨⟨ex_plus (ex_set_new (ex_set_new (ex_trans I.ex x1) I.hp) I.hp), ((((I.own.ex x1).set_other k0 (by decide)).set_other (blk_set k0) (by decide)).withRoot e.h0 e.h1).ex ⟨x2, rfl⟩, blk_ex ⟨x2, rfl⟩ (by have := blk_set (i := 6) (u := .int .i64 e.h1) (blk_set (i := 5) (u := .int .i64 e.h0) k0); exact this), I.hp⟩, blk_ex ⟨x2, rfl⟩ (blk_set_far (blk_set_far k2 hpq) hpq)⟩ ?_
    clear c0 c1 c2 c3 c4 c5 c6 e1 e2 z5 z6 l0 l1 l2 k0 k1 k2
    rintro w3 ⟨I3, k2⟩
    have hTq : T.heap.size ≤ q + 1 := by have := size_ex I.ex; omega
    go_wp2_with (refine wpList_store_box rfl 36 (Operand.tmp 4) _ rfl (q + 1) [.int .i64 0, .int .i64 0, .int .i64 0] rfl rfl _ _ k2 (by kernel_rfl) rfl (by intro v hv; simp at hv; subst hv; rfl) ?_)
    exact bodyPost_ret (results_two Tryz.results70 _ _ (q + 1) 36 #[.int .i64 0, .int .i64 0, .int .i64 0] _ _ (.int .i64 0) rfl rfl (blk_row_eq k2) Tryz.underlying36 rfl (by kernel_rfl)) rfl ⟨rfl, ex_row_new I3.ex hTq, fun _ => ⟨_, _, I3.took k2 hTq⟩⟩

end

section


open Go.RowKit Go.ChangeShapes Go.WideShapes Go.ChangeAt

set_option linter.unusedSimpArgs false

set_option linter.unusedVariables false

attribute [local go_sem] plus_size plus_drew dn_set dn_alloc dn_plus plus_dn cell_plus frozen_plus set_plus cell_alloc frozen_alloc set_alloc

structure FMap (T w : World) (b : Nat) (L : List (Int × Value)) : Prop where
  ex : ∃ y, w = plus T y
  lt : T.heap.size ≤ b
  it : ∃ es c, w.heap[b]? = some (.map es c) ∧ es.toList.map (fun e => (e.key, e.val)) = L.map (fun p => (Value.int .u8 p.1, p.2))

def getF : List (Int × Value) → Int → Option Value
  | [], _ => none
  | p :: r, k => if k = p.1 then some p.2 else getF r k

theorem FMap.on {T w w' : World} {b : Nat} {L : List (Int × Value)} (h : FMap T w b L) (hw : ∃ y, w' = plus w y) : FMap T w' b L := by
  obtain ⟨es, c, hb, hk⟩ := h.it
  exact ⟨ex_trans h.ex hw, h.lt, es, c, blk_ex hw hb, hk⟩

theorem findNow_u8 (k : Int) : ∀ (es : List MapEntry) (L : List (Int × Value)) (i : Nat), es.map (fun e => (e.key, e.val)) = L.map (fun p => (Value.int .u8 p.1, p.2)) →
    (getF L k = none ∧ Instr.findNow (.int .u8) (.int .u8 k) es i = some none) ∨ (∃ v j, getF L k = some v ∧ Instr.findNow (.int .u8) (.int .u8 k) es i = some (some (j, v)))
  | [], L, i, h => by
    obtain rfl : L = [] := by cases L <;> simp_all
    exact .inl ⟨rfl, rfl⟩
  | e :: es, L, i, h => by
    cases L with
    | nil => simp at h
    | cons y L =>
      simp only [List.map_cons, List.cons.injEq, Prod.mk.injEq] at h
      obtain ⟨⟨hk, hvv⟩, h⟩ := h
      by_cases hq : k = y.1
      · refine .inr ⟨y.2, i, by simp [getF, hq], ?_⟩
        rw [Instr.findNow, hk]
        simp [Instr.sameNow, hq, hvv]
      · have hq' : (k == y.1) = false := by rw [beq_eq_false_iff_ne]; exact hq
        rcases findNow_u8 k es L (i + 1) h with ⟨h1, h2⟩ | ⟨v, j, h1, h2⟩
        · refine .inl ⟨by simp [getF, hq, h1], ?_⟩
          rw [Instr.findNow, hk]
          simp [Instr.sameNow, hq', h2]
        · refine .inr ⟨v, j, by simp [getF, hq, h1], ?_⟩
          rw [Instr.findNow, hk]
          simp [Instr.sameNow, hq', h2]

theorem check_u8 (em : Bool) (k : Int) (w : World) : (Instr.checkKey em 10000 5 (.int .u8 k)).run Tryz.prog w = .ok () w := by
  kernel_rfl

theorem zero_doer (w : World) : (zeroValue 90).run Tryz.prog w = .ok .nilFunc w := by
  kernel_rfl

theorem find_u8 {k : Int} {es : List MapEntry} {L : List (Int × Value)} (w : World) (h : es.map (fun e => (e.key, e.val)) = L.map (fun p => (Value.int .u8 p.1, p.2))) :
    (getF L k = none ∧ (Instr.findKey 5 (.int .u8 k) es).run Tryz.prog w = .ok none w) ∨ (∃ v j, getF L k = some v ∧ (Instr.findKey 5 (.int .u8 k) es).run Tryz.prog w = .ok (some (j, v)) w) := by
  rcases findNow_u8 k es L 0 h with ⟨h1, h2⟩ | ⟨v, j, h1, h2⟩
  · exact .inl ⟨h1, by simp [Instr.findKey, run_underlying Tryz.underlying5, h2, Result.andThen]⟩
  · exact .inr ⟨v, j, h1, by simp [Instr.findKey, run_underlying Tryz.underlying5, h2, Result.andThen]⟩

def lookF (L : List (Int × Value)) (k : Int) : Value := match getF L k with | some v => .tuple #[v, .bool true] | none => .tuple #[.nilFunc, .bool false]

theorem look_u8 {T w : World} {b : Nat} {L : List (Int × Value)} (hS : FMap T w b L) (k : Int) : (Instr.lookup 92 (.map (some b)) (.int .u8 k) true).run Tryz.prog w = .ok (lookF L k) w := by
  obtain ⟨es, c, hb, hk⟩ := hS.it
  rcases find_u8 (k := k) w hk with ⟨h1, h2⟩ | ⟨v, j, h1, h2⟩
  · simp [Instr.lookup, run_underlying Tryz.underlying92, MapKept.run_getObj_map hb, check_u8, h2, lookF, h1, zero_doer, Result.andThen]
  · simp [Instr.lookup, run_underlying Tryz.underlying92, MapKept.run_getObj_map hb, check_u8, h2, lookF, h1, Result.andThen]

theorem wpList_insert_u8 {T w : World} {b : Nat} {L : List (Int × Value)} {ops : Array Oper} {rest : List Oper} {o : Oper} {a : Act} {Q : Exit → Act → World → Prop} (hgd : o.guard = none) (m x v : Operand) (hop : o.op = Op.insert 92 m x v) (hm : a.eval m = .map (some b)) (hS : FMap T w b L) (k : Int) (hx : a.eval x = .int .u8 k) (f : Value) (hvv : a.eval v = f) (hn : getF L k = none)
    (hK : ∀ w', FMap T w' b (L ++ [(k, f)]) → wpList Tryz.prog ops Q rest (a.put o.dst undef) w') : wpList Tryz.prog ops Q (o :: rest) a w := by
  refine wpList_plain hgd fun K' hK' => ?_
  obtain ⟨es, c, hb, hk⟩ := hS.it
  have hrun : (Instr.mapUpdate 92 (.map (some b)) (.int .u8 k) f).run Tryz.prog w = .ok () (ChangeMaps.setBlock w b (.map (es.push { key := .int .u8 k, val := f, born := c }) (c + 1))) := by
    rcases find_u8 (k := k) w hk with ⟨h1, h2⟩ | ⟨v, j, h1, h2⟩
    · simp [Instr.mapUpdate, run_underlying Tryz.underlying92, MapKept.run_getObj_map hb, check_u8, h2, MapKept.run_setObj_map _ hb, Result.andThen, ChangeMaps.setBlock]
    · rw [hn] at h1; cases h1
  unfold Oper.wp
  simp only [execOp, hop, hm, hx, hvv]
  simp [hrun, Result.andThen]
  have hg : w.grownBy (ChangeMaps.setBlock w b (.map (es.push { key := .int .u8 k, val := f, born := c }) (c + 1))) (some b) := ⟨rfl, rfl, rfl, by simp [ChangeMaps.setBlock], fun i _ hi => ChangeMaps.heap_setBlock_other hb _ (fun e => hi (by rw [e]))⟩
  refine hK' _ _ (hK _ ⟨?_, hS.lt, _, _, ChangeMaps.heap_setBlock_same hb _, by simp [hk]⟩)
  obtain ⟨y, rfl⟩ := hS.ex
  apply below_plus
  have hb2 := plus_below T y
  refine ⟨hg.os.trans hb2.os, hg.tape.trans hb2.tape, hg.output.trans hb2.output, Nat.le_trans hb2.size hg.size, fun n hn => ?_⟩
  rw [hg.block n (Nat.lt_of_lt_of_le hn hb2.size) (fun e => by have := hS.lt; cases e; omega)]
  exact hb2.block n hn

def doersL : List (Int × Value) := [(1, .func (.func 63) #[] #[]), (2, .func (.func 64) #[] #[]), (3, .func (.func 65) #[] #[]), (4, .func (.func 66) #[] #[]), (5, .func (.func 67) #[] #[]), (6, .func (.func 68) #[] #[]), (7, .func (.func 69) #[] #[]), (8, .func (.func 70) #[] #[])]

set_option maxHeartbeats 2000000 in
theorem doers_calls (w : World) : Calls Tryz.prog 26 #[] w fun e w' => ∃ b, e = .returned (.map (some b)) ∧ (∃ y, w' = plus w y) ∧ FMap w w' b doersL := by
  have f0 : FMap w (w.alloc (.map #[] 0)) w.heap.size [] := ⟨sk9, Nat.le_refl _, #[], 0, blk_new2 _ _, rfl⟩
  have hmm := @run_makeMap Tryz.prog
  go_enter Tryz.func26, Tryz.ntmps26
  go_wp2_with (refine wpList_insert_u8 (T := w) (b := w.heap.size) rfl (Operand.tmp 1) _ _ rfl (by simp [go_sem]) (by assumption) _ rfl _ rfl rfl ?_; intro w1 f1)
  go_ret
  exact ⟨_, rfl, f1.ex, f1⟩

end

section


open Go.RowKit Go.ChangeShapes Go.WideShapes Go.ChangeAt

set_option linter.unusedSimpArgs false

set_option linter.unusedVariables false

attribute [local go_sem] plus_size plus_drew dn_set dn_alloc dn_plus plus_dn cell_plus frozen_plus set_plus cell_alloc frozen_alloc set_alloc

def graphAs (h : SH) (ga : Option Addr) (gn gc : Nat) (ka : Option Addr) (kn kc : Nat) : SH := ⟨ga, gn, gc, ka, kn, kc, h.na, h.nn, h.nc, h.ma, h.mn, h.mc, h.ta, h.tn, h.tc, h.r0, h.r1⟩

theorem ScOwn.withGraph {T w : World} {h : SH} {x : SX} {s : Sc} (a : ScOwn T w h x s) {ga ka : Option Addr} {gn gc kn kc : Nat} {hs : List RH} {g : Gr} (o : GrOwn T w ga gn gc ka kn kc hs g) : ScOwn T w (graphAs h ga gn gc ka kn kc) ⟨hs, x.nh, x.mh, x.ph, x.th⟩ ⟨g, s.ns, s.ms, s.ts, s.root⟩ :=
  ⟨o, a.nl, a.nlen, a.ns, a.ml, a.mlen, a.ms, a.tl, a.tlen, a.ts, a.root, a.pl⟩

theorem GrOwn.set_other10 {T w : World} {gb i : Nat} {u : Value} {cur : Array Value} {ga ka : Option Addr} {gn gc kn kc : Nat} {hs : List RH} {g : Gr} (o : GrOwn T w ga gn gc ka kn kc hs g) (hb : w.heap[gb]? = some (.cells cur 95)) : GrOwn T (w.setCell ⟨gb, i, none⟩ u) ga gn gc ka kn kc hs g := o.set_other hb (by decide) (by decide) (by decide)

set_option maxRecDepth 100000 in
set_option maxHeartbeats 2000000 in
theorem take_calls {T w : World} {p : Nat} {h : SH} {x : SX} {s : Sc} (I : UwI T w p h x s) (ga ka : Option Addr) (gn gc kn kc : Nat) (hs : List RH) (g : Gr) (o : GrOwn T w ga gn gc ka kn kc hs g) (er : Int) :
    Calls Tryz.prog 121 #[.pointer (some ⟨p, 0, none⟩), .agg #[.slice ga gn gc, .slice ka kn kc], .int .i64 er] w fun e w' => e = .returned (.int .i64 er) ∧ w.grownBy w' (some p) ∧ (er = 0 → UwI T w' p (graphAs h ga gn gc ka kn kc) ⟨hs, x.nh, x.mh, x.ph, x.th⟩ ⟨g, s.ns, s.ms, s.ts, s.root⟩) ∧ (er ≠ 0 → ∃ y, w' = plus w y) := by
  obtain ⟨q, hq⟩ : ∃ q, w.heap.size = q := ⟨_, rfl⟩
  by_cases h0 : er = 0
  · subst h0
    go_enter Tryz.func121, Tryz.ntmps121
    go_upto_region 1 with fail
    refine name_w (fun w' => (∃ y, w' = plus w y) ∧ w'.heap[q]? = some (.cells #[.slice ga gn gc, .slice ka kn kc] 27)) ⟨sk9, hq ▸ blk_new2 _ _⟩ ?_
    try simp only [hq]
    rintro w1 ⟨x1, k1⟩
    have k0 := blk_ex x1 I.bx
    have c0 := cell_of (i := 0) k0 rfl
    have c1 := cell_of (i := 1) k0 rfl
    have z0 := frozen_blk (i := 0) k0
    have z1 := frozen_blk (i := 1) k0
    have e0 : w1.cell? ⟨q, 0, none⟩ = some (.slice ga gn gc) := cell_blk k1 rfl
    have e1 : w1.cell? ⟨q, 1, none⟩ = some (.slice ka kn kc) := cell_blk k1 rfl
    have l0 := cell_lt c0
    have o1 := o.ex x1
    have own := (((I.own.ex x1).set_other (i := 0) (u := .slice ga gn gc) k0 (by decide)).set_other (i := 1) (u := .slice ka kn kc) (blk_set k0) (by decide)).withGraph ((o1.set_other10 (i := 0) (u := .slice ga gn gc) k0).set_other10 (i := 1) (u := .slice ka kn kc) (blk_set k0))
    have bx := blk_set (i := 1) (u := .slice ka kn kc) (blk_set (i := 0) (u := .slice ga gn gc) k0)
    have hex := ex_set_new (i := 1) (u := .slice ka kn kc) (ex_set_new (i := 0) (u := .slice ga gn gc) (ex_trans I.ex x1) I.hp) I.hp
    have hgr : w.grownBy ((w1.setCell ⟨p, 0, none⟩ (.slice ga gn gc)).setCell ⟨p, 1, none⟩ (.slice ka kn kc)) (some p) := by
      have hb := grown_plus (r := some p) x1
      refine ⟨hb.os, hb.tape, hb.output, by rw [size_set, size_set]; exact hb.size, fun k hk hne => ?_⟩
      rw [blk_set_ne (fun e => hne (by rw [e])), blk_set_ne (fun e => hne (by rw [e]))]
      exact hb.block k hk hne
    replace own := Hush9.mk own
    replace bx := Hush9.mk bx
    replace hgr := Hush9.mk hgr
    go_wp2_with fail
    go_ret
    exact ⟨rfl, hgr.it, fun _ => ⟨hex, own.it, bx.it, I.hp⟩, fun e => absurd rfl e⟩
  · have d0 : (er == 0) = false := by rw [beq_eq_false_iff_ne]; exact h0
    go_enter Tryz.func121, Tryz.ntmps121
    go_wp2_with fail
    go_ret
    exact ⟨rfl, grown_plus sk9, fun e => absurd e h0, fun _ => sk9⟩

end

section


open Go.RowKit

set_option linter.unusedVariables false

structure TurnK (d : Nat) (R : List Nat) (gb : Option Nat) (D : Nat → Bool) (w : World) (D' : Nat → Bool) (w' : World) : Prop where
  t : Turn d gb D w D' w'
  m : ∀ j, D j = true → D' j = true
  k : D' d = true → D d = true ∨ ∀ r, r ∈ R → D' r = true

section

variable {d : Nat} {R : List Nat} {gb : Option Nat} {D D' : Nat → Bool} {w w' : World}

theorem tk_trans : ∀ D1 w1 D2 w2 D3 w3, TurnK d R gb D1 w1 D2 w2 → TurnK d R gb D2 w2 D3 w3 → TurnK d R gb D1 w1 D3 w3 := by
  intro D1 w1 D2 w2 D3 w3 h1 h2
  refine ⟨turn_trans _ _ _ _ _ _ h1.t h2.t, fun j hj => h2.m j (h1.m j hj), fun h => ?_⟩
  rcases h2.k h with h | h
  · rcases h1.k h with h | h
    · exact .inl h
    · exact .inr fun r hr => h2.m r (h r hr)
  · exact .inr h

theorem tk_draw (w : World) : TurnK d R gb noneYet w noneYet { w with drawn := w.drawn + 1 } := ⟨turn_draw w, fun _ h => h, fun h => .inl h⟩

theorem tk_grow {i : Nat} (hne : i ≠ d) (h : ∃ x, w' = plus w x) : TurnK d R gb D w (also D i) w' := ⟨turn_grow h, fun j hj => also_mono' hj, fun h2 => .inl (by rwa [also_ne hne] at h2)⟩

theorem tk_do (hg : w.grownBy w' gb) (hD : D d = false) (hr : ∀ r, r ∈ R → D r = true) : TurnK d R gb D w (also D d) w' := ⟨turn_do hg hD, fun j hj => also_mono' hj, fun _ => .inr fun r hm => also_mono' (hr r hm)⟩

theorem tk_ahead (h : TurnK d R gb noneYet w D w') {r : Nat} (hr : r ∈ R) (hD : D r = false) : ∃ x, w' = plus w x := by
  refine turn_ahead h.t ?_
  cases e : D d
  · rfl
  · rcases h.k e with h2 | h2
    · cases h2
    · rw [h2 r hr] at hD; cases hD

theorem tk_still (h : TurnK d R gb D w D' w') (hD : D d = true) : ∃ x, w' = plus w x :=
  below_plus ⟨h.t.grow.os, h.t.grow.tape, h.t.grow.output, h.t.grow.size, fun k hk => h.t.same (by rw [hD, h.t.mono hD]) k hk⟩

end

end

section


open Go.RowKit Go.ChangeShapes Go.WideShapes Go.ChangeAt

set_option linter.unusedSimpArgs false

set_option linter.unusedVariables false

attribute [local go_sem] plus_size plus_drew dn_set dn_alloc dn_plus plus_dn cell_plus frozen_plus set_plus cell_alloc frozen_alloc set_alloc

def killRG (g : Gr) (h : Int × Int) : Gr := if askErr g h h = 0 then killG g h else zeroG

def kmapTo (h : Int × Int) (ks : List (List (Int × Int))) : Nat → List (List (Int × Int))
  | 0 => ks
  | i + 1 => (kmapTo h ks i).set i (without h (nth [] ks i))

structure KLI (w : World) (p : Nat) (xa : Option Addr) (n xc kb kn kc : Nat) (hs : List RH) (g : Gr) (hc : Array Value) (wr : World) : Prop where
  ex : ∃ y, wr = plus w y
  own : GrOwn w wr xa n xc (some ⟨kb, 0, none⟩) kn kc hs g
  box : wr.heap[p]? = some (.cells #[.slice xa n xc, .slice (some ⟨kb, 0, none⟩) kn kc] 27)
  bh : wr.heap[w.heap.size + 1]? = some (.cells hc 32)
  br : wr.heap[w.heap.size + 1 + 1]? = some (.cells #[.slice none 0 0, .slice none 0 0] 27)

section

variable {w wr wr' : World} {p : Nat} {xa : Option Addr} {n xc kb kn kc : Nat} {hs : List RH} {g : Gr} {hc : Array Value}

theorem KLI.on (h : KLI w p xa n xc kb kn kc hs g hc wr) (hw : ∃ x, wr' = plus wr x) : KLI w p xa n xc kb kn kc hs g hc wr' := ⟨ex_trans h.ex hw, h.own.ex hw, blk_ex hw h.box, blk_ex hw h.bh, blk_ex hw h.br⟩

theorem KLI.kb_blk (h : KLI w p xa n xc kb kn kc hs g hc wr) (hk : 0 < kn) : ∃ cur, wr.heap[kb]? = some (.cells cur 88) ∧ w.heap.size ≤ kb ∧ kb < wr.heap.size := by
  obtain ⟨_, cur, e0, h1, h2, _⟩ := h.own.kh.blk hk
  cases e0
  exact ⟨cur, h2, h1, blk_lt h2⟩

theorem KLI.setRow {k : Nat} {r : RH} {l : List (Int × Int)} (h : KLI w p xa n xc kb kn kc hs g hc wr) (hk : k < kn) (o : Own 32 2 f2 w wr r.ao r.n r.cap l) : KLI w p xa n xc kb kn kc (hs.set k r) ⟨g.sl, g.ks.set k l⟩ hc (wr.setCell ⟨kb, k, none⟩ (.slice r.ao r.n r.cap)) := by
  obtain ⟨cur, hb, h1, _⟩ := h.kb_blk (by omega)
  have ne : ∀ {q : Nat} {c : Array Value} {e : TypeId}, wr.heap[q]? = some (.cells c e) → e ≠ 88 → (wr.setCell ⟨kb, k, none⟩ (.slice r.ao r.n r.cap)).heap[q]? = some (.cells c e) := by
    intro q c e hq he
    rw [blk_set_ne ?_]
    · exact hq
    · intro e0
      rw [e0, hq] at hb
      cases hb
      exact he rfl
  exact ⟨ex_set_new h.ex h1, h.own.setRow hk o, ne h.box (by decide), ne h.bh (by decide), ne h.br (by decide)⟩

end

def k6S (i : Nat) : List Nat := match i with | 0 => [37] | 1 => [38] | 2 => [39] | 3 => [40] | 4 => [41] | 5 => [42] | 6 => [43] | 7 => [44] | 8 => [45] | 9 => [46] | 10 => [47] | _ => []

def k6Φ (W : World) (p kb kn kc i : Nat) (rv hv : Value) (R : List (Int × Int)) (j : Nat) (t : Nat → Value) (w' : World) : Prop := match j with
  | 0 => t 37 = .pointer (some ⟨p, 1, none⟩)
  | 1 => t 38 = .slice (some ⟨kb, 0, none⟩) kn kc
  | 2 => t 39 = .int .i64 i
  | 3 => t 40 = .pointer (some ⟨p, 1, none⟩)
  | 4 => t 41 = .slice (some ⟨kb, 0, none⟩) kn kc
  | 5 => t 42 = .int .i64 i
  | 6 => t 43 = .pointer (some ⟨kb, i, none⟩)
  | 7 => t 44 = rv
  | 8 => t 45 = hv
  | 9 => ∃ xa xc, t 46 = .slice xa R.length xc ∧ Own 32 2 f2 W w' xa R.length xc R
  | 10 => t 47 = .pointer (some ⟨kb, i, none⟩)
  | _ => True

end

section


open Go.RowKit Go.ChangeShapes Go.WideShapes Go.ChangeAt

set_option linter.unusedSimpArgs false

set_option linter.unusedVariables false

attribute [local go_sem] plus_size plus_drew dn_set dn_alloc dn_plus plus_dn cell_plus frozen_plus set_plus cell_alloc frozen_alloc set_alloc

def linkRes (g : Gr) (p c : Int × Int) (k : Int) : Gr := if linkErr g p c k = 0 then linkG g p c k else zeroG

end

end Go.Proofs.YtcekcihijdipoaaGreat
