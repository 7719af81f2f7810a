/- NodesNever's own needs: none; lists of acts; a graph, and the nodes that were made of it, kept through a loop. -/
import Derived.Test.YtmmflpjfgapaaaaNodesA
import Derived.Test.YtmmflpjfgapaaaaOpen4
/- What dioramalaw06.none gives. -/
namespace Go.Proofs.Ytmmflpjfgapaaaa
open Go.RowKit Go.ChangeShapes Go.WideShapes Go.ChangeAt
set_option linter.unusedSimpArgs false
set_option linter.unusedVariables false
attribute [local go_sem] plus_size plus_drew dn_set dn_alloc dn_plus plus_dn cell_plus frozen_plus set_plus cell_alloc frozen_alloc set_alloc

theorem nreach_no {ao ko : Option Addr} {n cap kn kcap : Nat} {hs : List RH} {gr : Gr} {s g i1 i2 : Int} {w : World} (hb : reachR gr (s, g) (i1, i2) = false) (he : askErr gr (s, g) (i1, i2) = 0) (hG : GrAt w ao n ko kn hs gr) :
    Calls Try.prog 31 #[.agg #[.slice ao n cap, .slice ko kn kcap], .agg #[.int .i64 s, .int .i64 g], .agg #[.int .i64 i1, .int .i64 i2]] w fun e w' => e = .returned (.tuple #[.bool false, .int .i64 0]) ∧ Below w.heap.size w w' := nreaches_is hb he hG

set_option maxRecDepth 100000 in
set_option maxHeartbeats 8000000 in
theorem gnone_calls (ao : Option Addr) (n cap : Nat) (ko : Option Addr) (kn kcap : Nat) (hs : List RH) (gr : Gr) (w : World) (hG : GrAt w ao n ko kn hs gr) (hok : grOk gr = true) :
    Calls Try.prog 34 #[.agg #[.slice ao n cap, .slice ko kn kcap]] w fun e w' => e = .returned (.bool true) ∧ Below w.heap.size w w' := by
  have hlen := hG.kl
  have hkh := hG.kh.len
  have hsl := hG.sl.len
  have m1 := hG.n1
  have m2 := hG.n2
  obtain ⟨_, h2, h3, _⟩ := gr_parts hok
  go_enter Try.func34, Try.ntmps34
  go_wp2
  go_loopw [3] (fun i_ wr => ∃ i : Nat, i ≤ kn ∧ i_ = .int .i64 i ∧ ∃ x, wr = plus (w.alloc (.cells #[.slice ao n cap, .slice ko kn kcap] 27)) x) (fun i_ _ => kn - (intOf i_).toNat)
  case atStart => exact ⟨0, Nat.zero_le _, rfl, (by with_reducible repeat (first | exact ex_refl _ | exact ex_more | apply ex_alloc | apply ex_plus | apply ex_drew | apply ex_drewN))⟩
  case round =>
    obtain ⟨i, hi, rfl, x, rfl⟩ := hrel
    by_cases hil : i < kn
    rotate_left
    · have ii : ¬ (i : Int) < (kn : Int) := by omega
      go_wp2
      go_ret
      exact ⟨rfl, by with_reducible repeat (first | exact Below.refl _ _ | apply ba | apply bp | apply bd | apply bn)⟩
    have ii : (i : Int) < (kn : Int) := by omega
    have iin : (i : Int) < (n : Int) := by omega
    obtain ⟨kg, kf, rfl, hkg, hkc⟩ := hG.kh.some (by omega)
    obtain ⟨sg, sf, rfl, hsg, hsc⟩ := hG.sl.some (by omega)
    have c1 := cellR hkh hkc hil
    obtain ⟨v0, v1⟩ := cellS hsl hsc (k := i) (by omega)
    have hrow := hG.row i (by omega)
    have hrl := hrow.len
    have hn3 := hG.n3 i (by omega)
    go_wp2
    go_loopw [4] (fun k_ wr => ∃ k : Nat, k ≤ (nth dRH hs i).n ∧ k_ = .int .i64 k ∧ ∃ y, wr = plus (plus (w.alloc (.cells #[.slice (some ⟨sg, sf, none⟩) n cap, .slice (some ⟨kg, kf, none⟩) kn kcap] 27)) x) y) (fun k_ _ => (nth dRH hs i).n - (intOf k_).toNat)
    case atStart => exact ⟨0, Nat.zero_le _, rfl, ex_refl _⟩
    case round =>
      obtain ⟨k, hk, rfl, y, rfl⟩ := hrel
      by_cases hkl : k < (nth dRH hs i).n
      rotate_left
      · have ik : ¬ (k : Int) < ((nth dRH hs i).n : Int) := by omega
        go_wp2
        go_roundw
        case rel => exact ⟨i + 1, by omega, by go_num, (by with_reducible repeat (first | exact ex_refl _ | exact ex_more | apply ex_alloc | apply ex_plus | apply ex_drew | apply ex_drewN))⟩
        case measure => simp [intOf]; omega
      have ik : (k : Int) < ((nth dRH hs i).n : Int) := by omega
      obtain ⟨rg, ro, hra, hrg, hrc⟩ := hrow.some (by omega)
      obtain ⟨x0, x1⟩ := cell2 hrl hrc hkl
      rw [hra] at c1
      have hmem := nth_mem (d := ((0, 0) : Int × Int)) (l := nth [] gr.ks i) (k := k) (by omega)
      obtain ⟨_, hlive, hheld⟩ := rows_at h3 (i := i) (by omega)
      have hx := hheld _ hmem
      have hlv : (nth dSl gr.sl i).live = true := hlive.resolve_left (by omega)
      have hin : heldIn gr.sl (i : Int) (nth dSl gr.sl i).gen = true := held_spec.2 ⟨⟨by omega, by omega⟩, by rw [Int.toNat_natCast]; exact hlv, by rw [Int.toNat_natCast]⟩
      have hask : askErr gr ((nth (0, 0) (nth [] gr.ks i) k).1, (nth (0, 0) (nth [] gr.ks i) k).2) ((i : Int), (nth dSl gr.sl i).gen) = 0 := by rw [askErr, if_pos hok, if_pos ⟨hx, hin⟩]
      have hrr : reachR gr ((nth (0, 0) (nth [] gr.ks i) k).1, (nth (0, 0) (nth [] gr.ks i) k).2) ((i : Int), (nth dSl gr.sl i).gen) = false := by rw [reachR, if_pos hask]; exact none_up hok (by omega) hmem _
      go_wp2
      refine region_plus (by kernel_rfl) (by kernel_rfl) ?_
      (repeat (go_big_quiet_step ((go_at_call 31; exact plus_of (nreach_no hrr hask (hG.ex (by with_reducible repeat (first | exact ex_refl _ | exact ex_more | apply ex_alloc | apply ex_plus | apply ex_drew | apply ex_drewN))))))))
      refine wpQuiet_nil ?_
      rintro _ ⟨x2, rfl⟩
      go_wp2
      go_roundw
      case rel => exact ⟨k + 1, by omega, by go_num, (by with_reducible repeat (first | exact ex_refl _ | exact ex_more | apply ex_alloc | apply ex_plus | apply ex_drew | apply ex_drewN))⟩
      case measure => simp [intOf]; omega

end Go.Proofs.Ytmmflpjfgapaaaa

/- Arguments that are lists of acts: opened; a graph, and the nodes that were made of it, kept through a loop. -/
namespace Go.Proofs.Ytmmflpjfgapaaaa
open Go.RowKit Go.ChangeShapes Go.WideShapes Go.ChangeAt Go.Deep
set_option linter.unusedSimpArgs false
set_option linter.unusedVariables false
attribute [local go_sem] plus_size plus_drew dn_set dn_alloc dn_plus plus_dn cell_plus frozen_plus set_plus cell_alloc frozen_alloc set_alloc

/-- an act: its kind, two nodes, a place -/
structure Ac where
  k : Int
  a : Int
  b : Int
  p : Int
def dAc : Ac := ⟨0, 0, 0, 0⟩
def fA (x : Ac) : List Value := [.int .u8 x.k, .int .i64 x.a, .int .i64 x.b, .int .i64 x.p]
theorem fA_c (x : Ac) : (fA x).length = 4 := rfl
section
variable {H : Type} {enc : TypeId × Value → H} {P : Program} {W : World} {base : Nat} {spare : Nat → Bool} {held : Bool} {f0 f1 f2' f3 : Field} {t : TypeId}
theorem act_cells {fuel : Nat} {x : DataW H × List MemPlace} {c0 c1 c2 c3 : Value} (hs : P.underlying t = some (.struct #[f0, f1, f2', f3])) (hone : oneCellFields P #[f0, f1, f2', f3] = true) (h0 : P.underlying f0.type = some (.int .u8)) (h1 : P.underlying f1.type = some (.int .i64)) (h2 : P.underlying f2'.type = some (.int .i64)) (h3 : P.underlying f3.type = some (.int .i64))
    (h : DataW.trod enc P W base spare held fuel t [c0, c1, c2, c3] = some x) : ∃ s : Ac, [c0, c1, c2, c3] = fA s ∧ 0 ≤ s.k ∧ s.k ≤ 255 := by
  obtain ⟨xs, n, _, _, hl, hlen, hf⟩ := DataW.trod_struct hs h
  match xs, hlen with
  | [y0, y1, y2, y3], _ =>
    obtain ⟨o0, k0⟩ := hone_of hone 0 f0 rfl
    obtain ⟨o1, k1⟩ := hone_of hone 1 f1 rfl
    obtain ⟨o2, k2⟩ := hone_of hone 2 f2' rfl
    obtain ⟨o3, k3⟩ := hone_of hone 3 f3 rfl
    have g0 := hf 0 f0 rfl
    have g1 := hf 1 f1 rfl
    have g2 := hf 2 f2' rfl
    have g3 := hf 3 f3 rfl
    have g0' : DataW.trod enc P W base spare held n f0.type [c0] = some y0 := by simpa [o0, k0] using g0
    have g1' : DataW.trod enc P W base spare held n f1.type [c1] = some y1 := by simpa [o1, k1] using g1
    have g2' : DataW.trod enc P W base spare held n f2'.type [c2] = some y2 := by simpa [o2, k2] using g2
    have g3' : DataW.trod enc P W base spare held n f3.type [c3] = some y3 := by simpa [o3, k3] using g3
    obtain ⟨z0, e0, _, wk⟩ := DataW.trod_int h0 g0'
    obtain rfl : c0 = .int .u8 z0 := by simpa using e0
    obtain ⟨z1, e1, _⟩ := DataW.trod_int h1 g1'
    obtain rfl : c1 = .int .i64 z1 := by simpa using e1
    obtain ⟨z2, e2, _⟩ := DataW.trod_int h2 g2'
    obtain rfl : c2 = .int .i64 z2 := by simpa using e2
    obtain ⟨z3, e3, _⟩ := DataW.trod_int h3 g3'
    obtain rfl : c3 = .int .i64 z3 := by simpa using e3
    exact ⟨⟨z0, z1, z2, z3⟩, rfl, (bounds_u8 wk).1, (bounds_u8 wk).2⟩
theorem lay_acts {ao : Option Addr} {n : Nat} (hs : P.underlying t = some (.struct #[f0, f1, f2', f3])) (hone : oneCellFields P #[f0, f1, f2', f3] = true) (h0 : P.underlying f0.type = some (.int .u8)) (h1 : P.underlying f1.type = some (.int .i64)) (h2 : P.underlying f2'.type = some (.int .i64)) (h3 : P.underlying f3.type = some (.int .i64))
    (h : RowsAt W ao n 4 (fun cs => ∃ m y, DataW.trod enc P W base spare held m t cs = some y)) : ∃ l : List Ac, Lay fA W ao n l ∧ ∀ k, k < n → 0 ≤ (nth dAc l k).k ∧ (nth dAc l k).k ≤ 255 :=
  lay_rows (f := fA) (R := fun x => 0 ≤ x.k ∧ x.k ≤ 255) dAc (by decide) fA_c h (by
    rintro cs hl ⟨m, y, hy⟩
    match cs, hl, hy with
    | [a, b, c, d], _, hy => exact act_cells hs hone h0 h1 h2 h3 hy)
end
theorem cellA {w : World} {g o n k : Nat} {l : List Ac} (hn : l.length = n) (h : ∀ j u, (l.flatMap fA)[j]? = some u → w.cell? ⟨g, o + j, none⟩ = some u) (hk : k < n) : w.cell? ⟨g, o + k * 4, none⟩ = some (.int .u8 (nth dAc l k).k) ∧ w.cell? ⟨g, o + k * 4 + 1, none⟩ = some (.int .i64 (nth dAc l k).a) ∧ w.cell? ⟨g, o + k * 4 + 2, none⟩ = some (.int .i64 (nth dAc l k).b) ∧ w.cell? ⟨g, o + k * 4 + 3, none⟩ = some (.int .i64 (nth dAc l k).p) := by
  have h0 := cell_nth (d := dAc) hn fA_c h k 0 _ hk (by decide) rfl
  have h1 := cell_nth (d := dAc) hn fA_c h k 1 _ hk (by decide) rfl
  have h2 := cell_nth (d := dAc) hn fA_c h k 2 _ hk (by decide) rfl
  have h3 := cell_nth (d := dAc) hn fA_c h k 3 _ hk (by decide) rfl
  rw [Nat.add_zero] at h0
  rw [← Nat.add_assoc] at h1 h2 h3
  exact ⟨h0, h1, h2, h3⟩
theorem remU (k : Int) (h0 : 0 ≤ k) (h1 : k ≤ 255) (w : World) : (binOp .rem 5 (.int .u8 k) (.int .u8 5)).run Try.prog w = .ok (.int .u8 (k % 5)) w := by
  have h : k.tmod 5 = k % 5 := Int.tmod_eq_emod_of_nonneg h0
  simp [binOp, go_sem, h]

/-- the graph and the nodes that were made of it -/
structure NI (w : World) (gr : Gr) (gv : List (Int × Int)) (ao : Option Addr) (n cap : Nat) (ko : Option Addr) (kn kcap : Nat) (ga : Option Addr) (gc : Nat) (wr : World) : Prop where
  ex : ∃ y, wr = plus w y
  box : wr.heap[w.heap.size]? = some (.cells #[.slice ao n cap, .slice ko kn kcap] 27)
  gr : (∃ hs, GrAt w ao n ko kn hs gr) ∨ ∃ hs, GrOwn w wr ao n cap ko kn kcap hs gr
  gs : Own 29 2 f2 w wr ga gv.length gc gv
section
variable {w wr wr' : World} {gr gr' : Gr} {gv gv' : List (Int × Int)} {ao ko ga ao' ko' ga' : Option Addr} {n cap kn kcap gc n' cap' kn' kcap' gc' : Nat}
theorem NI.on (h : NI w gr gv ao n cap ko kn kcap ga gc wr) (hw : ∃ x, wr' = plus wr x) : NI w gr gv ao n cap ko kn kcap ga gc wr' :=
  ⟨ex_trans h.ex hw, blk_ex hw h.box, h.gr.imp id (fun ⟨hs, o⟩ => ⟨hs, o.ex hw⟩), h.gs.ex hw⟩
theorem NI.at (h : NI w gr gv ao n cap ko kn kcap ga gc wr) (hok : grOk gr = true) : ∃ hs, GrAt wr ao n ko kn hs gr := by
  obtain ⟨h1, h2, h3, _⟩ := gr_parts hok
  have hl := arOk_len h1
  rcases h.gr with ⟨hs, o⟩ | ⟨hs, o⟩
  · exact ⟨hs, o.ex h.ex⟩
  · have e1 := o.sl.1
    have e2 := o.kl
    exact ⟨hs, o.at (by omega) (by omega) (fun k hk => by have := (rows_at h3 hk).1; omega)⟩
theorem NI.setBox {hs' : List RH} (h : NI w gr gv ao n cap ko kn kcap ga gc wr) (o : GrOwn w wr ao' n' cap' ko' kn' kcap' hs' gr') : NI w gr' gv ao' n' cap' ko' kn' kcap' ga gc ((wr.setCell ⟨w.heap.size, 0, none⟩ (.slice ao' n' cap')).setCell ⟨w.heap.size, 1, none⟩ (.slice ko' kn' kcap')) :=
  ⟨ex_set_new (ex_set_new h.ex (Nat.le_refl _)) (Nat.le_refl _), blk_set_eq (blk_set_eq h.box), .inr ⟨hs', (o.set_other h.box (by decide) (by decide) (by decide)).set_other (blk_set_eq h.box) (by decide) (by decide) (by decide)⟩, (h.gs.set_other h.box (by decide)).set_other (blk_set_eq h.box) (by decide)⟩
theorem NI.appG (h : NI w gr gv ao n cap ko kn kcap ga gc wr) (hn : ∀ hs, GrOwn w wr ao n cap ko kn kcap hs gr → GrOwn w wr' ao n cap ko kn kcap hs gr) (o : Own 29 2 f2 w wr' ga' gv'.length gc' gv') (hx : ∃ y, wr' = plus w y) (hgr : wr.grownBy wr' (Value.ownBlock (.slice ga gv.length gc))) : NI w gr gv' ao n cap ko kn kcap ga' gc' wr' :=
  ⟨hx, grown_blk hgr h.gs h.box (by decide), h.gr.imp id (fun ⟨hs, o⟩ => ⟨hs, hn hs o⟩), o⟩
end

end Go.Proofs.Ytmmflpjfgapaaaa

/- A graph, and the nodes that were made of it, through stores and appends. -/
namespace Go.Proofs.Ytmmflpjfgapaaaa
open Go.RowKit Go.ChangeShapes Go.WideShapes Go.ChangeAt
set_option linter.unusedSimpArgs false
set_option linter.unusedVariables false
attribute [local go_sem] plus_size plus_drew dn_set dn_alloc dn_plus plus_dn cell_plus frozen_plus set_plus cell_alloc frozen_alloc set_alloc

section
variable {w wr wr' T : World} {gr gr' : Gr} {gv gv' : List (Int × Int)} {ao ko ga ao' ko' ga' : Option Addr} {n cap kn kcap gc n' cap' kn' kcap' gc' m : Nat} {hs : List RH}
theorem gr_app (h : GrOwn T wr ao n cap ko kn kcap hs gr) (g : Own 29 2 f2 w wr ga m gc gv) (hT : ∀ a, ga = some a → a.block < T.heap.size) (hgr : wr.grownBy wr' (Value.ownBlock (.slice ga m gc))) : GrOwn T wr' ao n cap ko kn kcap hs gr :=
  ⟨grown_own hgr g h.sl (by decide), grown_own hgr g h.kh (by decide), h.len, fun k hk => own_grown (h.row k hk) hgr fun a ha e => by
    obtain ⟨_, _, e2, _⟩ := own_block g _ e.symm
    have h1 := hT _ e2
    have h2 := (own_loc (h.row k hk) ha).1
    simp only at h1
    omega⟩
theorem NI.setX {p : Nat} {cur : Array Value} {a b : Value} (h : NI w gr gv ao n cap ko kn kcap ga gc wr) (hp : wr.heap[p]? = some (.cells cur 27)) (h1 : w.heap.size < p) : NI w gr gv ao n cap ko kn kcap ga gc ((wr.setCell ⟨p, 0, none⟩ a).setCell ⟨p, 1, none⟩ b) :=
  ⟨ex_set_new (ex_set_new h.ex (by omega)) (by omega), (blk_set_ne (by omega)).trans ((blk_set_ne (by omega)).trans h.box), h.gr.imp id (fun ⟨hs, o⟩ => ⟨hs, (o.set_other hp (by decide) (by decide) (by decide)).set_other (blk_set_eq hp) (by decide) (by decide) (by decide)⟩), (h.gs.set_other hp (by decide)).set_other (blk_set_eq hp) (by decide)⟩
theorem NI.blk (h : NI w gr gv ao n cap ko kn kcap ga gc wr) : ∀ a, ga = some a → a.block < wr.heap.size := fun a ha => (own_loc h.gs ha).2
theorem NI.lt (h : NI w gr gv ao n cap ko kn kcap ga gc wr) : w.heap.size < wr.heap.size := blk_lt h.box
theorem NI.made {i : Nat} (h : NI w gr gv ao n cap ko kn kcap ga gc wr) (hi : i < gv.length) : ∃ gg, ga = some ⟨gg, 0, none⟩ ∧ gg < wr.heap.size ∧ ∀ j, j < gv.length → wr.cell? ⟨gg, j * 2, none⟩ = some (.int .i64 (nth (0, 0) gv j).1) ∧ wr.cell? ⟨gg, j * 2 + 1, none⟩ = some (.int .i64 (nth (0, 0) gv j).2) := by
  obtain ⟨gg, cu, rfl, hgg, hgb, _⟩ := h.gs.blk (by omega)
  obtain ⟨_, _, eqa, hglt, hgc⟩ := h.gs.lay.some (by omega)
  cases eqa
  refine ⟨gg, rfl, hglt, fun j hj => ?_⟩
  have := cell2 h.gs.1 hgc (k := j) hj
  rwa [Nat.zero_add] at this
end
theorem turn_no {d : Nat} {gb : Option Nat} {D D' : Nat → Bool} {w w' : World} (h : Turn d gb D w D' w') (hd : D' d = false) : D d = false := by
  cases e : D d with
  | false => rfl
  | true => rw [h.mono e] at hd; cases hd
theorem turn_same {d : Nat} {gb : Option Nat} {D D' : Nat → Bool} {w w' : World} (h : Turn d gb D w D' w') (hd : D d = D' d) : ∃ x, w' = plus w x :=
  below_plus ⟨h.grow.os, h.grow.tape, h.grow.output, h.grow.size, fun k hk => h.same hd k hk⟩
theorem grown_set {w : World} (p i : Nat) (u : Value) : w.grownBy (w.setCell ⟨p, i, none⟩ u) (some p) :=
  ⟨rfl, rfl, rfl, by rw [size_set]; exact Nat.le_refl _, fun k hk hne => blk_set_ne (fun e => hne (by rw [e]))⟩
/-- a link is refused as a loop just if it would make one -/
theorem link_loop {g : Gr} {a b : Int × Int} {p : Int} (hok : grOk g = true) : (linkErr g a b p = 60 → askErr g b a = 0 ∧ reachR g b a = true) ∧ (linkErr g a b p = 0 → askErr g b a = 0 ∧ reachR g b a = false) := by
  have key : askErr g a b = 0 → askErr g b a = 0 := fun h => by
    obtain ⟨_, h1, h2⟩ := ask_ok h
    rw [askErr, if_pos hok, if_pos ⟨h2, h1⟩]
  have h8 : askErr g a b = 0 ∨ askErr g a b = 50 := by
    rw [askErr, if_pos hok]
    split
    · exact .inl rfl
    · exact .inr rfl
  refine ⟨fun h => ?_, fun h => ?_⟩
  · unfold linkErr at h
    split at h
    · rename_i h1
      have h2 := key h1
      split at h
      · split at h
        · cases h
        · split at h
          · rename_i h3
            exact ⟨h2, by rw [reachR, if_pos h2]; exact h3⟩
          · cases h
      · cases h
    · rename_i h1
      rcases h8 with h8 | h8
      · exact absurd h8 h1
      · rw [h8] at h; cases h
  · obtain ⟨_, hp, hc, _, _, _, hr⟩ := link_parts h
    have h2 : askErr g b a = 0 := by rw [askErr, if_pos hok, if_pos ⟨hc, hp⟩]
    exact ⟨h2, by rw [reachR, if_pos h2]; exact hr⟩

theorem nkill_is {ao ko : Option Addr} {n cap kn kcap n' kn' : Nat} {hs : List RH} {gr r : Gr} {s g er : Int} {w : World} (hr : killRG gr (s, g) = r) (he : askErr gr (s, g) (s, g) = er) (h1 : r.sl.length = n') (h2 : r.ks.length = kn') (hG : GrAt w ao n ko kn hs gr) :
    Calls Try.prog 12 #[.agg #[.slice ao n cap, .slice ko kn kcap], .agg #[.int .i64 s, .int .i64 g]] w fun e w' => ∃ ao' cap' ko' kcap' hs', e = .returned (.tuple #[.agg #[.slice ao' n' cap', .slice ko' kn' kcap'], .int .i64 er]) ∧ (∃ y, w' = plus w y) ∧ GrOwn w w' ao' n' cap' ko' kn' kcap' hs' r := by
  subst hr he h1 h2
  exact nkill_calls ao n cap ko kn kcap hs gr s g w hG
theorem nunlink_at {ao ko : Option Addr} {n cap kn kcap n' kn' : Nat} {hs : List RH} {gr r : Gr} {s g pos er : Int} {w : World} (hr : unlinkRes gr (s, g) pos = r) (he : unlinkErr gr (s, g) pos = er) (h1 : r.sl.length = n') (h2 : r.ks.length = kn') (hG : GrAt w ao n ko kn hs gr) :
    Calls Try.prog 13 #[.agg #[.slice ao n cap, .slice ko kn kcap], .agg #[.int .i64 s, .int .i64 g], .int .i64 pos] w fun e w' => ∃ ao' cap' ko' kcap' hs', e = .returned (.tuple #[.agg #[.slice ao' n' cap', .slice ko' kn' kcap'], .int .i64 er]) ∧ (∃ y, w' = plus w y) ∧ GrOwn w w' ao' n' cap' ko' kn' kcap' hs' r := by
  subst hr he h1 h2
  exact nunlink_calls ao n cap ko kn kcap hs gr s g pos w hG

end Go.Proofs.Ytmmflpjfgapaaaa
