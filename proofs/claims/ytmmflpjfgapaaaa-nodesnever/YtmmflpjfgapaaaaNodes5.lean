/- What dioramaref06.Twin gives: a graph in new memory. -/
import Derived.Test.YtmmflpjfgapaaaaNodes4
namespace Go.Proofs.Ytmmflpjfgapaaaa
open Go.RowKit Go.ChangeShapes Go.WideShapes Go.ChangeAt
set_option linter.unusedSimpArgs false
set_option linter.unusedVariables false
attribute [local go_sem] plus_size plus_drew dn_set dn_alloc dn_plus plus_dn cell_plus frozen_plus set_plus cell_alloc frozen_alloc set_alloc

theorem Own.cap_le {α : Type} {f : α → List Value} {w T : World} {ao : Option Addr} {n cap c : Nat} {l : List α} {e : TypeId} (h : Own e c f T w ao n cap l) : n ≤ cap := by
  rcases h.2.2 with ⟨e1, h0⟩ | ⟨k, cp, cu, e1, _, _, h4, _⟩
  · simp only [Value.slice.injEq] at e1; omega
  · simp only [Value.slice.injEq] at e1; omega
/-- a graph in memory newer than T -/
structure GrOwn (T w : World) (ao : Option Addr) (n cap : Nat) (ko : Option Addr) (kn kcap : Nat) (hs : List RH) (g : Gr) : Prop where
  sl : Own 67 2 fS T w ao n cap g.sl
  kh : Own 36 1 fR T w ko kn kcap hs
  len : hs.length = g.ks.length
  row : ∀ k, k < hs.length → Own 29 2 f2 T w (nth dRH hs k).ao (nth dRH hs k).n (nth dRH hs k).cap (nth [] g.ks k)
section
variable {T T' w w' : World} {ao ko : Option Addr} {n cap kn kcap : Nat} {hs : List RH} {g : Gr}
theorem GrOwn.ex (h : GrOwn T w ao n cap ko kn kcap hs g) (hw : ∃ x, w' = plus w x) : GrOwn T w' ao n cap ko kn kcap hs g := ⟨h.sl.ex hw, h.kh.ex hw, h.len, fun k hk => (h.row k hk).ex hw⟩
theorem GrOwn.base (h : GrOwn T w ao n cap ko kn kcap hs g) (hT : T'.heap.size ≤ T.heap.size) : GrOwn T' w ao n cap ko kn kcap hs g := ⟨h.sl.base hT, h.kh.base hT, h.len, fun k hk => (h.row k hk).base hT⟩
theorem GrOwn.kl (h : GrOwn T w ao n cap ko kn kcap hs g) : g.ks.length = kn := h.len.symm.trans h.kh.1
theorem GrOwn.at (h : GrOwn T w ao n cap ko kn kcap hs g) (h1 : n ≤ 1000) (h2 : kn ≤ 1000) (h3 : ∀ k, k < g.ks.length → (nth [] g.ks k).length ≤ 1000) : GrAt w ao n ko kn hs g :=
  ⟨h.sl.lay, h.kh.lay, h.len, fun k hk => (h.row k hk).lay, h1, h2, fun k hk => by rw [← (h.row k hk).1]; exact h3 k (by rw [← h.len]; exact hk), fun k hk => (h.row k hk).cap_le, fun k hk => (h.row k hk).none_zero⟩
theorem GrOwn.set_other {gb i : Nat} {u : Value} {cur : Array Value} {e' : TypeId} (h : GrOwn T w ao n cap ko kn kcap hs g) (hb : w.heap[gb]? = some (.cells cur e')) (h1 : e' ≠ 67) (h2 : e' ≠ 36) (h3 : e' ≠ 29) : GrOwn T (w.setCell ⟨gb, i, none⟩ u) ao n cap ko kn kcap hs g :=
  ⟨h.sl.set_other hb h1, h.kh.set_other hb h2, h.len, fun k hk => (h.row k hk).set_other hb h3⟩
end

/-- a copy under way: k rows are there -/
structure TI (T : World) (p : Nat) (aa : Option Addr) (n ac : Nat) (L : List Sl) (ks : List (List (Int × Int))) (k : Nat) (ka : Option Addr) (kc : Nat) (hs : List RH) (wr : World) : Prop where
  ex : ∃ y, wr = plus T y
  box : wr.heap[p]? = some (.cells #[.slice aa n ac, .slice ka k kc] 27)
  sl : Own 67 2 fS T wr aa n ac L
  kh : Own 36 1 fR T wr ka k kc hs
  row : ∀ j, j < k → Own 29 2 f2 T wr (nth dRH hs j).ao (nth dRH hs j).n (nth dRH hs j).cap (nth [] ks j)
section
variable {T wr wr' : World} {p : Nat} {aa ka ka' : Option Addr} {n ac k kc kc' : Nat} {L : List Sl} {ks : List (List (Int × Int))} {hs hs' : List RH}
theorem TI.on (h : TI T p aa n ac L ks k ka kc hs wr) (hw : ∃ x, wr' = plus wr x) : TI T p aa n ac L ks k ka kc hs wr' := ⟨ex_trans h.ex hw, blk_ex hw h.box, h.sl.ex hw, h.kh.ex hw, fun j hj => (h.row j hj).ex hw⟩
/-- one row more -/
theorem TI.app {r : RH} (h : TI T p aa n ac L ks k ka kc hs wr) (hp : T.heap.size ≤ p) (o : Own 29 2 f2 T wr r.ao r.n r.cap (nth [] ks k)) (oh : Own 36 1 fR T wr' ka' (k + 1) kc' (hs ++ [r])) (hx : ∃ y, wr' = plus T y) (hgr : wr.grownBy wr' (Value.ownBlock (.slice ka k kc))) :
    TI T p aa n ac L ks (k + 1) ka' kc' (hs ++ [r]) (wr'.setCell ⟨p, 1, none⟩ (.slice ka' (k + 1) kc')) := by
  have hb := grown_blk hgr h.kh h.box (by decide)
  have hl := h.kh.1
  refine ⟨ex_set_new hx hp, blk_set_eq hb, (grown_own hgr h.kh h.sl (by decide)).set_other hb (by decide), oh.set_other hb (by decide), fun j hj => ?_⟩
  by_cases hjk : j < k
  · rw [nth_append_left (by omega)]
    exact (grown_own hgr h.kh (h.row j hjk) (by decide)).set_other hb (by decide)
  · obtain rfl : j = k := by omega
    rw [nth_append_right (by omega), show j - hs.length = 0 by omega]
    exact (grown_own hgr h.kh o (by decide)).set_other hb (by decide)
end

/-- a graph in new memory -/
def RetG1 (w : World) (n kn : Nat) (g : Gr) (e : Ending) (w' : World) : Prop := ∃ ao' cap' ko' kcap' hs', e = .returned (.agg #[.slice ao' n cap', .slice ko' kn kcap']) ∧ (∃ y, w' = plus w y) ∧ GrOwn w w' ao' n cap' ko' kn kcap' hs' g

set_option maxRecDepth 100000 in
set_option maxHeartbeats 8000000 in
theorem gtwin_calls (ao : Option Addr) (n cap : Nat) (ko : Option Addr) (kn kcap : Nat) (hs : List RH) (g : Gr) (w : World) (hG : GrAt w ao n ko kn hs g) :
    Calls Try.prog 17 #[.agg #[.slice ao n cap, .slice ko kn kcap]] w fun e w' => RetG1 w n kn g e w' := by
  have hlen := hG.kl
  have hkh := hG.kh.len
  have b1 := hG.n1
  have b3 := hG.n2
  go_enter Try.func17, Try.ntmps17
  go_upto_region 2 with (go_at_call 48; refine (atwin_calls _ _ _ g.sl _ (hG.sl.ex (by with_reducible repeat (first | exact ex_refl _ | exact ex_more | apply ex_alloc | apply ex_plus | apply ex_drew | apply ex_drewN))) (by omega)).mono ?_; rintro e w1 ⟨a1, c1, rfl, hw1, o1⟩; have q1 : w1.heap[w.heap.size]? = some (.cells #[.slice ao n cap, .slice ko kn kcap] 27) := blk_ex hw1 (by rw [blk_alloc, if_neg (by simp), blk_alloc, if_pos rfl]); have hr0 : w1.heap[w.heap.size + 1]? = some (.cells #[.slice none 0 0, .slice none 0 0] 27) := blk_ex hw1 (by rw [blk_alloc, if_pos (by simp)]))
  have hs1 := size_ex hw1
  have r0 := blk_ex (ex_alloc (o := (.cells #[.slice a1 n c1, .slice none 0 0] 27)) (ex_refl w1)) hr0
  have g0 := blk_ex (ex_alloc (o := (.cells #[.slice a1 n c1, .slice none 0 0] 27)) (ex_refl w1)) q1
  have hI : TI w w1.heap.size a1 n c1 g.sl g.ks 0 none 0 [] (w1.alloc (.cells #[.slice a1 n c1, .slice none 0 0] 27)) := ⟨(by with_reducible repeat (first | exact ex_refl _ | exact ex_more | apply ex_alloc | apply ex_plus | apply ex_drew | apply ex_drewN | (apply ex_on; assumption))), by rw [blk_alloc, if_pos rfl], (o1.ex (ex_alloc (o := (.cells #[.slice a1 n c1, .slice none 0 0] 27)) (ex_refl w1))).base (by simp [go_sem]; omega), own_nil, fun j hj => by omega⟩
  have lq := blk_lt q1
  have lr0 := blk_lt hr0
  clear o1 q1 hr0
  generalize w1.alloc (.cells #[.slice a1 n c1, .slice none 0 0] 27) = w2 at *
  have hx2 := hI.ex
  have t1 := cell_blk (i := 1) g0 rfl
  go_wp2
  go_loopw [4] (fun i_ wr => ∃ (k : Nat) (ka : Option Addr) (kc : Nat) (hs' : List RH), k ≤ kn ∧ i_ = .int .i64 k ∧ TI w w1.heap.size a1 n c1 g.sl g.ks k ka kc hs' wr ∧ wr.heap[w.heap.size]? = some (.cells #[.slice ao n cap, .slice ko kn kcap] 27) ∧ wr.heap[w.heap.size + 1]? = some (.cells #[.slice none 0 0, .slice none 0 0] 27)) (fun i_ _ => kn - (intOf i_).toNat)
  case atStart => exact ⟨0, none, 0, [], Nat.zero_le _, rfl, hI, g0, r0⟩
  case round =>
    clear hI t1 g0 r0 hx2
    obtain ⟨k, ka, kc, hs', hk, rfl, hI, g0, r0⟩ := hrel
    have t1 := cell_blk (i := 1) g0 rfl
    have e0 := cell_blk (i := 0) hI.box rfl
    have e1 := cell_blk (i := 1) hI.box rfl
    have lb := blk_lt hI.box
    have lr := blk_lt r0
    by_cases hkl : k < kn
    rotate_left
    · have ik : ¬ (k : Int) < (kn : Int) := by omega
      obtain rfl : k = kn := by omega
      have s0 := cell_blk (i := 0) r0 rfl
      have s1 := cell_blk (i := 1) r0 rfl
      have z0 := frozen_blk (i := 0) r0
      have z1 := frozen_blk (i := 1) r0
      have hO : GrOwn w wr a1 n c1 ka k kc hs' g := ⟨hI.sl, hI.kh, by rw [hI.kh.1, hlen], fun j hj => hI.row j (by rw [← hI.kh.1]; exact hj)⟩
      have hO2 := (hO.set_other (i := 0) (u := .slice a1 n c1) r0 (by decide) (by decide) (by decide)).set_other (i := 1) (u := .slice ka k kc) (blk_set_eq r0) (by decide) (by decide) (by decide)
      have rf := blk_set_eq (i := 1) (u := .slice ka k kc) (blk_set_eq (i := 0) (u := .slice a1 n c1) r0)
      have hxf := ex_set_new (i := 1) (u := .slice ka k kc) (g := w.heap.size + 1) (ex_set_new (i := 0) (u := .slice a1 n c1) (g := w.heap.size + 1) hI.ex (by omega)) (by omega)
      clear hO
      go_wp2
      generalize (wr.setCell ⟨w.heap.size + 1, 0, none⟩ (.slice a1 n c1)).setCell ⟨w.heap.size + 1, 1, none⟩ (.slice ka k kc) = w9 at *
      have f0 := cell_blk (i := 0) rf rfl
      have f1 := cell_blk (i := 1) rf rfl
      exact bodyPost_ret (v := .agg #[.slice a1 n c1, .slice ka k kc]) (by simp [results, Try.results17, go_sem, f0, f1]) rfl ⟨a1, c1, ka, kc, hs', rfl, hxf, hO2⟩
    have ik : (k : Int) < (kn : Int) := by omega
    obtain ⟨kg, kf, rfl, hkg, hkc⟩ := hG.kh.some (by omega)
    have c1' := cell_ex hI.ex (cellR hkh hkc hkl)
    have hrow := (hG.row k (by omega)).ex hI.ex
    have hn3 := hG.n3 k (by omega)
    go_upto_region 7 with (at_builtin; refine wpList_append_lay (T := wr) (l := []) rfl _ _ rfl kinH f2_c f2_1 rfl (by with_reducible repeat (first | exact ex_refl _ | exact ex_more | apply ex_alloc | apply ex_plus | apply ex_drew | apply ex_drewN)) own_nil rfl hrow (by omega) (by decide) ?_; intro ao' cap' yv hown'; rw [Nat.zero_add, List.nil_append] at hown')
    have hx5 : ∃ y, plus wr yv = plus wr y := ⟨yv, rfl⟩
    have hI5 := hI.on hx5
    have g5 := blk_ex hx5 g0
    have r5 := blk_ex hx5 r0
    have orow := hown'.base (T' := w) (by have := size_ex hI.ex; omega)
    clear hown' c1' e0 e1 lb lr hI t1 g0 r0 hrow
    generalize plus wr yv = w5 at *
    have e0 := cell_blk (i := 0) hI5.box rfl
    have e1 := cell_blk (i := 1) hI5.box rfl
    have z1 := frozen_blk (i := 1) hI5.box
    have lb := blk_lt hI5.box
    go_wp2_with (at_builtin; (refine wpList_append_lay2 (T := w) rfl _ _ rfl kinR fR_c fR_1 rfl (hI5.on (by with_reducible repeat (first | exact ex_refl _ | exact ex_more | apply ex_alloc | apply ex_plus | apply ex_drew | apply ex_drewN))).ex (hI5.on (by with_reducible repeat (first | exact ex_refl _ | exact ex_more | apply ex_alloc | apply ex_plus | apply ex_drew | apply ex_drewN))).kh rfl (l2 := [⟨ao', (nth dRH hs k).n, cap'⟩]) ⟨rfl, .inr ⟨_, 0, rfl, by (simp [go_sem]; try omega), fun jj u hu => by match jj, hu with | 0, hu => (simp [fR] at hu; subst hu; simp [go_sem, ↓IntWalk.iteOmega]) | jj + 1, hu => simp [fR] at hu⟩⟩ (by omega) (by decide) ?_); intro ka2 kc2 w7 oh hx7 hgr7; have hI6 := hI5.on (wr' := w5.alloc (.cells #[.slice ao' (nth dRH hs k).n cap'] 36)) (by with_reducible repeat (first | exact ex_refl _ | exact ex_more | apply ex_alloc | apply ex_plus | apply ex_drew | apply ex_drewN)); have hI7 := hI6.app (r := ⟨ao', (nth dRH hs k).n, cap'⟩) (by omega) (orow.ex (by with_reducible repeat (first | exact ex_refl _ | exact ex_more | apply ex_alloc | apply ex_plus | apply ex_drew | apply ex_drewN))) oh hx7 hgr7; have bb := grown_blk hgr7 hI6.kh hI6.box (by decide); have e07 := cell_blk (i := 0) bb rfl; have e17 := cell_blk (i := 1) bb rfl; have z17 := frozen_blk (i := 1) bb; have r7 := grown_blk hgr7 hI6.kh (blk_ex (w' := w5.alloc (.cells #[.slice ao' (nth dRH hs k).n cap'] 36)) (by with_reducible repeat (first | exact ex_refl _ | exact ex_more | apply ex_alloc | apply ex_plus | apply ex_drew | apply ex_drewN)) r5) (by decide); have r7' : (w7.setCell ⟨w1.heap.size, 1, none⟩ (.slice ka2 (k + 1) kc2)).heap[w.heap.size + 1]? = _ := (blk_set_ne (by omega)).trans r7; have g7 := grown_blk hgr7 hI6.kh (blk_ex (w' := w5.alloc (.cells #[.slice ao' (nth dRH hs k).n cap'] 36)) (by with_reducible repeat (first | exact ex_refl _ | exact ex_more | apply ex_alloc | apply ex_plus | apply ex_drew | apply ex_drewN)) g5) (by decide); have g7' : (w7.setCell ⟨w1.heap.size, 1, none⟩ (.slice ka2 (k + 1) kc2)).heap[w.heap.size]? = _ := (blk_set_ne (by omega)).trans g7)
    go_roundw
    case rel => exact ⟨k + 1, ka2, kc2, hs' ++ [⟨ao', (nth dRH hs k).n, cap'⟩], by omega, by go_num, hI7, g7', r7'⟩
    case measure => simp [intOf]; omega

end Go.Proofs.Ytmmflpjfgapaaaa
