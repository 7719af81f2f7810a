/- What dioramaref06.Make gives. -/
import Derived.Test.YtmmflpjfgapaaaaNodes8
namespace Go.Proofs.Ytmmflpjfgapaaaa
open Go.RowKit Go.ChangeShapes Go.WideShapes Go.ChangeAt
set_option linter.unusedSimpArgs false
set_option linter.unusedVariables false
attribute [local go_sem] plus_size plus_drew dn_set dn_alloc dn_plus plus_dn cell_plus frozen_plus set_plus cell_alloc frozen_alloc set_alloc

def makeRes (g : Gr) : Gr := if makeGErr g = 0 then makeG g else zeroG
def makeS (g : Gr) : Int := if makeGErr g = 0 then mkSlot g.sl else 0
def makeH (g : Gr) : Int := if makeGErr g = 0 then mkGen g.sl else 0
def RetGM (w : World) (g : Gr) (s h er : Int) (e : Ending) (w' : World) : Prop := ∃ ao' cap' ko' kcap' hs', e = .returned (.tuple #[.agg #[.slice ao' g.sl.length cap', .slice ko' g.ks.length kcap'], .agg #[.int .i64 s, .int .i64 h], .int .i64 er]) ∧ (∃ y, w' = plus w y) ∧ GrOwn w w' ao' g.sl.length cap' ko' g.ks.length kcap' hs' g
theorem blk_eq {w w' : World} {g : Nat} {o : Obj} (e : w' = w) (h : w.heap[g]? = some o) : w'.heap[g]? = some o := e ▸ h
theorem two_set12 {b1 b2 : Nat} {o1 o2 : Obj} {w : World} {i j : Nat} {u v : Value} (hne : b1 ≠ b2) (h : ((w.setCell ⟨b1, i, none⟩ u).setCell ⟨b1, j, none⟩ v).heap[b1]? = some o1) : Two b1 o1 b2 o2 w ((w.setCell ⟨b1, i, none⟩ u).setCell ⟨b1, j, none⟩ v) :=
  ⟨rfl, rfl, rfl, by rw [size_set, size_set]; exact Nat.le_refl _, fun k _ n1 _ => (blk_set_ne (fun e => n1 e.symm)).trans (blk_set_ne (fun e => n1 e.symm)), .inr h, .inl ((blk_set_ne hne).trans (blk_set_ne hne))⟩
theorem Own.two_same {α : Type} {f : α → List Value} {b1 b2 : Nat} {o1 o2 : Obj} {w w1 T : World} {ao : Option Addr} {n cap c : Nat} {l : List α} {e e1 : TypeId} {c1 : Array Value} (h : Own e c f T w ao n cap l) (ht : Two b1 o1 b2 o2 w w1) (h1 : w.heap[b1]? = some (.cells c1 e1)) (n1 : e1 ≠ e) (hb : b2 < T.heap.size) : Own e c f T w1 ao n cap l := by
  refine ⟨h.1, h.2.1, h.2.2.imp id ?_⟩
  rintro ⟨q, cp, cu, a1, a2, a3, a4⟩
  refine ⟨q, cp, cu, a1, a2, ?_, a4⟩
  rw [ht.rest q (blk_lt a3) ?_ (by omega)]
  · exact a3
  · intro e0
    rw [e0, h1] at a3
    cases a3
    exact n1 rfl

def g10S (i : Nat) : List Nat := match i with | 0 => [42] | 1 => [43] | 4 => [4] | _ => []
def g10Φ (xv hv : Value) (b1 : Nat) (o1 : Obj) (b2 : Nat) (o2 : Obj) (i : Nat) (t : Nat → Value) (w' : World) : Prop := match i with
  | 0 => t 42 = xv
  | 1 => t 43 = hv
  | 2 => w'.heap[b1]? = some o1
  | 3 => w'.heap[b2]? = some o2
  | 4 => t 4 = .int .i64 0
  | _ => True
theorem g10Φ_mono (xv hv : Value) (b1 : Nat) (o1 : Obj) (b2 : Nat) (o2 : Obj) : ∀ i t t' w w', g10Φ xv hv b1 o1 b2 o2 i t w → (∀ s ∈ g10S i, t' s = t s) → Two b1 o1 b2 o2 w w' → g10Φ xv hv b1 o1 b2 o2 i t' w' := by
  intro i t t' w w' h hs' ht
  match i with
  | 0 => exact (hs' 42 (by decide)).trans h
  | 1 => exact (hs' 43 (by decide)).trans h
  | 2 => exact (two_one ht h).elim id id
  | 3 => exact (two_two ht h).elim id id
  | 4 => exact (hs' 4 (by decide)).trans h
  | i + 5 => trivial

set_option maxRecDepth 100000 in
set_option maxHeartbeats 8000000 in
theorem gmake_calls (ao : Option Addr) (n cap : Nat) (ko : Option Addr) (kn kcap : Nat) (hs : List RH) (gr : Gr) (w : World) (hG : GrAt w ao n ko kn hs gr) :
    Calls Try.prog 19 #[.agg #[.slice ao n cap, .slice ko kn kcap]] w fun e w' => RetGM w (makeRes gr) (makeS gr) (makeH gr) (makeGErr gr) e w' := by
  have hlen := hG.kl
  have hkh := hG.kh.len
  have hsl := hG.sl.len
  have m1 := hG.n1
  have m2 := hG.n2
  cases hO : grOk gr
  · have he : makeGErr gr = 8 := by rw [makeGErr, hO]; rfl
    rw [makeRes, makeS, makeH, he]
    go_enter Try.func19, Try.ntmps19
    go_wp2_with (go_at_call 50; refine (plus_post (gmay_calls _ _ _ _ _ _ hs gr _ (hG.ex (by with_reducible repeat (first | exact ex_refl _ | exact ex_more | apply ex_alloc | apply ex_plus | apply ex_drew | apply ex_drewN))))).mono ?_; rintro e w' ⟨rfl, nx, rfl⟩; rw [hO])
    exact bodyPost_ret (v := .tuple #[.agg #[.slice none 0 0, .slice none 0 0], .agg #[.int .i64 0, .int .i64 0], .int .i64 8]) (by simp [results, Try.results19, go_sem, ↓IntWalk.iteOmega]) rfl ⟨none, 0, none, 0, [], rfl, (by with_reducible repeat (first | exact ex_refl _ | exact ex_more | apply ex_alloc | apply ex_plus | apply ex_drew | apply ex_drewN)), own_zero⟩
  by_cases he : mkErr gr.sl = 0
  rotate_left
  · have he2 : makeGErr gr = mkErr gr.sl := by rw [makeGErr, hO]; rfl
    have he9 : mkErr gr.sl = 9 := by
      have ho := (gr_parts hO).1
      unfold mkErr at he ⊢
      rw [if_pos ho] at he ⊢
      split at he
      · exact absurd rfl he
      · rename_i h1
        rw [if_neg h1]
        split at he
        · rename_i h2; rw [if_pos h2]
        · exact absurd rfl he
    rw [he9] at he2
    rw [makeRes, makeS, makeH, he2]
    go_enter Try.func19, Try.ntmps19
    go_wp2_with (first | (go_at_call 50; refine (plus_post (gmay_calls _ _ _ _ _ _ hs gr _ (hG.ex (by with_reducible repeat (first | exact ex_refl _ | exact ex_more | apply ex_alloc | apply ex_plus | apply ex_drew | apply ex_drewN))))).mono ?_; rintro e w' ⟨rfl, nx, rfl⟩; rw [hO]) | (go_at_call 51; refine (rmake_calls _ _ _ gr.sl _ (hG.sl.ex (by with_reducible repeat (first | exact ex_refl _ | exact ex_more | apply ex_alloc | apply ex_plus | apply ex_drew | apply ex_drewN))) (by omega)).mono ?_; rw [he9]; rintro e wm ⟨xa, xc, rfl, ⟨ym, rfl⟩, om⟩))
    exact bodyPost_ret (v := .tuple #[.agg #[.slice none 0 0, .slice none 0 0], .agg #[.int .i64 0, .int .i64 0], .int .i64 9]) (by simp [results, Try.results19, go_sem, ↓IntWalk.iteOmega]) rfl ⟨none, 0, none, 0, [], rfl, (by with_reducible repeat (first | exact ex_refl _ | exact ex_more | apply ex_alloc | apply ex_plus | apply ex_drew | apply ex_drewN)), own_zero⟩
  have he2 : makeGErr gr = 0 := by rw [makeGErr, hO]; exact he
  rw [makeRes, makeS, makeH, he2, if_pos rfl, if_pos rfl, if_pos rfl]
  have hR : mkRes gr.sl = mkList gr.sl := by rw [mkRes, if_pos he]
  have hS : mkS gr.sl = mkSlot gr.sl := by rw [mkS, if_pos he]
  have hGn : mkG gr.sl = mkGen gr.sl := by rw [mkG, if_pos he]
  have hmb : (mkList gr.sl).length ≤ n + 1 := by rw [mkList_len]; split <;> omega
  go_enter Try.func19, Try.ntmps19
  go_upto_region 6 with (first | (go_at_call 50; refine (plus_post (gmay_calls _ _ _ _ _ _ hs gr _ (hG.ex (by with_reducible repeat (first | exact ex_refl _ | exact ex_more | apply ex_alloc | apply ex_plus | apply ex_drew | apply ex_drewN))))).mono ?_; rintro e w' ⟨rfl, nx, rfl⟩; rw [hO]) | (go_at_call 51; refine (rmake_calls _ _ _ gr.sl _ (hG.sl.ex (by with_reducible repeat (first | exact ex_refl _ | exact ex_more | apply ex_alloc | apply ex_plus | apply ex_drew | apply ex_drewN))) (by omega)).mono ?_; rw [he, hR, hS, hGn]; rintro e wm ⟨xa, xc, rfl, hwm, om⟩))
  have zm : w.heap.size + 1 + 1 + 1 ≤ wm.heap.size := by
    have := size_ex hwm
    simp [go_sem] at this
    omega
  have hTw : ∃ y, (wm.alloc (.cells #[.slice xa (mkList gr.sl).length xc] 24)).alloc (.cells #[.int .i64 (mkSlot gr.sl), .int .i64 (mkGen gr.sl)] 29) = plus w y := (by with_reducible repeat (first | exact ex_refl _ | exact ex_more | apply ex_alloc | apply ex_plus | apply ex_drew | apply ex_drewN | (apply ex_on; assumption)))
  have bA0 : ((wm.alloc (.cells #[.slice xa (mkList gr.sl).length xc] 24)).alloc (.cells #[.int .i64 (mkSlot gr.sl), .int .i64 (mkGen gr.sl)] 29)).heap[wm.heap.size]? = some (.cells #[.slice xa (mkList gr.sl).length xc] 24) := by rw [blk_alloc, if_neg (by simp), blk_alloc, if_pos rfl]
  have bH0 : ((wm.alloc (.cells #[.slice xa (mkList gr.sl).length xc] 24)).alloc (.cells #[.int .i64 (mkSlot gr.sl), .int .i64 (mkGen gr.sl)] 29)).heap[wm.heap.size + 1]? = some (.cells #[.int .i64 (mkSlot gr.sl), .int .i64 (mkGen gr.sl)] 29) := by rw [blk_alloc, if_pos (by simp)]
  have bG0 : ((wm.alloc (.cells #[.slice xa (mkList gr.sl).length xc] 24)).alloc (.cells #[.int .i64 (mkSlot gr.sl), .int .i64 (mkGen gr.sl)] 29)).heap[w.heap.size]? = some (.cells #[.slice ao n cap, .slice ko kn kcap] 27) := blk_ex (w := (w.alloc (.cells #[.slice ao n cap, .slice ko kn kcap] 27))) (by with_reducible repeat (first | exact ex_refl _ | exact ex_more | apply ex_alloc | apply ex_plus | apply ex_drew | apply ex_drewN | (apply ex_on; assumption))) (by rw [blk_alloc, if_pos rfl])
  have b10 : ((wm.alloc (.cells #[.slice xa (mkList gr.sl).length xc] 24)).alloc (.cells #[.int .i64 (mkSlot gr.sl), .int .i64 (mkGen gr.sl)] 29)).heap[w.heap.size + 1]? = some (.cells #[.slice none 0 0, .slice none 0 0] 27) := blk_ex (w := (w.alloc (.cells #[.slice ao n cap, .slice ko kn kcap] 27)).alloc (.cells #[.slice none 0 0, .slice none 0 0] 27)) (by with_reducible repeat (first | exact ex_refl _ | exact ex_more | apply ex_alloc | apply ex_plus | apply ex_drew | apply ex_drewN | (apply ex_on; assumption))) (by rw [blk_alloc, if_pos (by simp)])
  have b20 : ((wm.alloc (.cells #[.slice xa (mkList gr.sl).length xc] 24)).alloc (.cells #[.int .i64 (mkSlot gr.sl), .int .i64 (mkGen gr.sl)] 29)).heap[w.heap.size + 1 + 1]? = some (.cells #[.int .i64 0, .int .i64 0] 29) := blk_ex (w := ((w.alloc (.cells #[.slice ao n cap, .slice ko kn kcap] 27)).alloc (.cells #[.slice none 0 0, .slice none 0 0] 27)).alloc (.cells #[.int .i64 0, .int .i64 0] 29)) (by with_reducible repeat (first | exact ex_refl _ | exact ex_more | apply ex_alloc | apply ex_plus | apply ex_drew | apply ex_drewN | (apply ex_on; assumption))) (by rw [blk_alloc, if_pos (by simp)])
  have ox0 := (om.ex (ex_alloc (o := (.cells #[.int .i64 (mkSlot gr.sl), .int .i64 (mkGen gr.sl)] 29)) (ex_alloc (o := (.cells #[.slice xa (mkList gr.sl).length xc] 24)) (ex_refl wm)))).base (T' := w) (by simp [go_sem]; omega)
  clear om
  generalize (wm.alloc (.cells #[.slice xa (mkList gr.sl).length xc] 24)).alloc (.cells #[.int .i64 (mkSlot gr.sl), .int .i64 (mkGen gr.sl)] 29) = Tw at *
  have l20 := blk_lt b20
  have lA0 := blk_lt bA0
  have lH0 := blk_lt bH0
  have g0 := cell_blk (i := 0) bG0 rfl
  have g1 := cell_blk (i := 1) bG0 rfl
  go_upto_region 7 with (go_at_call 17; refine (gtwin_calls _ _ _ _ _ _ hs gr _ (hG.ex hTw)).mono ?_; rintro e w1 ⟨a1, c1, ka, kc, hs1, rfl, hw1, og⟩)
  have bA := blk_ex (ex_alloc (o := (.cells #[.slice a1 n c1, .slice ka kn kc] 27)) (ex_refl w1)) (blk_ex hw1 bA0)
  have bH := blk_ex (ex_alloc (o := (.cells #[.slice a1 n c1, .slice ka kn kc] 27)) (ex_refl w1)) (blk_ex hw1 bH0)
  have b1 := blk_ex (ex_alloc (o := (.cells #[.slice a1 n c1, .slice ka kn kc] 27)) (ex_refl w1)) (blk_ex hw1 b10)
  have b2 := blk_ex (ex_alloc (o := (.cells #[.slice a1 n c1, .slice ka kn kc] 27)) (ex_refl w1)) (blk_ex hw1 b20)
  have bv : (w1.alloc (.cells #[.slice a1 n c1, .slice ka kn kc] 27)).heap[w1.heap.size]? = some (.cells #[.slice a1 n c1, .slice ka kn kc] 27) := by rw [blk_alloc, if_pos rfl]
  have ox := ox0.ex (ex_trans hw1 (ex_alloc (o := (.cells #[.slice a1 n c1, .slice ka kn kc] 27)) (ex_refl w1)))
  have kh := (og.kh.ex (ex_alloc (o := (.cells #[.slice a1 n c1, .slice ka kn kc] 27)) (ex_refl w1))).base (T' := w) (size_ex hTw)
  have rows : ∀ j, j < hs1.length → Own 29 2 f2 Tw (w1.alloc (.cells #[.slice a1 n c1, .slice ka kn kc] 27)) (nth dRH hs1 j).ao (nth dRH hs1 j).n (nth dRH hs1 j).cap (nth [] gr.ks j) := fun j hj => (og.row j hj).ex (ex_alloc (o := (.cells #[.slice a1 n c1, .slice ka kn kc] 27)) (ex_refl w1))
  have hx2 : ∃ y, w1.alloc (.cells #[.slice a1 n c1, .slice ka kn kc] 27) = plus w y := (by with_reducible repeat (first | exact ex_refl _ | exact ex_more | apply ex_alloc | apply ex_plus | apply ex_drew | apply ex_drewN | (apply ex_on; assumption)))
  have hl1 := og.len
  have z1 := size_ex hw1
  clear og ox0
  generalize w1.alloc (.cells #[.slice a1 n c1, .slice ka kn kc] 27) = w2 at *
  have a0 := cell_blk (i := 0) bA rfl
  have v0 := cell_blk (i := 0) bv rfl
  have y0 := frozen_blk (i := 0) bv
  have lv := blk_lt bv
  go_upto_region 8 with fail
  refine name_world (fun w' => w' = w2.setCell ⟨w1.heap.size, 0, none⟩ (.slice xa (mkList gr.sl).length xc)) rfl ?_
  rintro w3 e3
  have bA3 := blk_eq e3 ((blk_set_ne (by omega)).trans bA)
  have bH3 := blk_eq e3 ((blk_set_ne (by omega)).trans bH)
  have b13 := blk_eq e3 ((blk_set_ne (by omega)).trans b1)
  have b23 := blk_eq e3 ((blk_set_ne (by omega)).trans b2)
  have bv3 : w3.heap[w1.heap.size]? = some (.cells #[.slice xa (mkList gr.sl).length xc, .slice ka kn kc] 27) := by rw [e3]; exact blk_set_eq bv
  have ox3 := ox.set_other (i := 0) (u := .slice xa (mkList gr.sl).length xc) bv (by decide)
  have kh3 := kh.set_other (i := 0) (u := .slice xa (mkList gr.sl).length xc) bv (by decide)
  have rows3 : ∀ j, j < hs1.length → Own 29 2 f2 Tw w3 (nth dRH hs1 j).ao (nth dRH hs1 j).n (nth dRH hs1 j).cap (nth [] gr.ks j) := fun j hj => by rw [e3]; exact (rows j hj).set_other bv (by decide)
  have hx3 : ∃ y, w3 = plus w y := by rw [e3]; exact ex_set_new hx2 (by have := size_ex hTw; omega)
  rw [← e3] at ox3 kh3
  clear e3 ox kh rows bA bH b1 b2 bv a0 v0 y0 hx2 bA0 bH0 bG0 b10 b20 g0 g1
  have a0 := cell_blk (i := 0) bA3 rfl
  have v1 := cell_blk (i := 1) bv3 rfl
  have y1 := frozen_blk (i := 1) bv3
  have lv3 := blk_lt bv3
  have lA3 := blk_lt bA3
  have hk1 := kh3.1
  by_cases hlt : kn < (mkList gr.sl).length
  · have ilt : (kn : Int) < ((mkList gr.sl).length : Int) := by omega
    go_upto_region 10 with (at_builtin; refine wpList_append_lay2 (T := w) rfl _ _ rfl kinR fR_c fR_1 rfl (ex_on (by with_reducible repeat (first | exact ex_refl _ | exact ex_more | apply ex_alloc | apply ex_plus | apply ex_drew | apply ex_drewN)) hx3) (kh3.ex (by with_reducible repeat (first | exact ex_refl _ | exact ex_more | apply ex_alloc | apply ex_plus | apply ex_drew | apply ex_drewN))) rfl (l2 := [dRH]) ⟨rfl, .inr ⟨_, 0, rfl, by (simp [go_sem]; try omega), fun jj u hu => by match jj, hu with | 0, hu => (simp [fR, dRH] at hu; subst hu; simp [go_sem, ↓IntWalk.iteOmega]) | jj + 1, hu => simp [fR] at hu⟩⟩ (by omega) (by decide) ?_; intro kb kd w4 ok4 hx4 hgr4; have bv4 := grown_blk hgr4 (kh3.ex (by with_reducible repeat (first | exact ex_refl _ | exact ex_more | apply ex_alloc | apply ex_plus | apply ex_drew | apply ex_drewN))) (blk_ex (w' := w3.alloc (.cells #[.slice none 0 0] 36)) (by with_reducible repeat (first | exact ex_refl _ | exact ex_more | apply ex_alloc | apply ex_plus | apply ex_drew | apply ex_drewN)) bv3) (by decide); have v14 := cell_blk (i := 1) bv4 rfl; have y14 := frozen_blk (i := 1) bv4; have lv4 := blk_lt bv4)
    have bA5 := grown_blk hgr4 (kh3.ex (by with_reducible repeat (first | exact ex_refl _ | exact ex_more | apply ex_alloc | apply ex_plus | apply ex_drew | apply ex_drewN))) (blk_ex (w' := w3.alloc (.cells #[.slice none 0 0] 36)) (by with_reducible repeat (first | exact ex_refl _ | exact ex_more | apply ex_alloc | apply ex_plus | apply ex_drew | apply ex_drewN)) bA3) (by decide)
    have bH5 := grown_blk hgr4 (kh3.ex (by with_reducible repeat (first | exact ex_refl _ | exact ex_more | apply ex_alloc | apply ex_plus | apply ex_drew | apply ex_drewN))) (blk_ex (w' := w3.alloc (.cells #[.slice none 0 0] 36)) (by with_reducible repeat (first | exact ex_refl _ | exact ex_more | apply ex_alloc | apply ex_plus | apply ex_drew | apply ex_drewN)) bH3) (by decide)
    have b15 := grown_blk hgr4 (kh3.ex (by with_reducible repeat (first | exact ex_refl _ | exact ex_more | apply ex_alloc | apply ex_plus | apply ex_drew | apply ex_drewN))) (blk_ex (w' := w3.alloc (.cells #[.slice none 0 0] 36)) (by with_reducible repeat (first | exact ex_refl _ | exact ex_more | apply ex_alloc | apply ex_plus | apply ex_drew | apply ex_drewN)) b13) (by decide)
    have b25 := grown_blk hgr4 (kh3.ex (by with_reducible repeat (first | exact ex_refl _ | exact ex_more | apply ex_alloc | apply ex_plus | apply ex_drew | apply ex_drewN))) (blk_ex (w' := w3.alloc (.cells #[.slice none 0 0] 36)) (by with_reducible repeat (first | exact ex_refl _ | exact ex_more | apply ex_alloc | apply ex_plus | apply ex_drew | apply ex_drewN)) b23) (by decide)
    have ox5 := (grown_own hgr4 (kh3.ex (by with_reducible repeat (first | exact ex_refl _ | exact ex_more | apply ex_alloc | apply ex_plus | apply ex_drew | apply ex_drewN))) (ox3.ex (w' := w3.alloc (.cells #[.slice none 0 0] 36)) (by with_reducible repeat (first | exact ex_refl _ | exact ex_more | apply ex_alloc | apply ex_plus | apply ex_drew | apply ex_drewN))) (by decide)).set_other (i := 1) (u := .slice kb (kn + 1) kd) bv4 (by decide)
    have kh5 := ok4.set_other (i := 1) (u := .slice kb (kn + 1) kd) bv4 (by decide)
    refine name_world (fun w' => w' = w4.setCell ⟨w1.heap.size, 1, none⟩ (.slice kb (kn + 1) kd)) rfl ?_
    rintro w5 e5
    have bH6 := blk_eq e5 ((blk_set_ne (by omega)).trans bH5)
    have b16 := blk_eq e5 ((blk_set_ne (by omega)).trans b15)
    have b26 := blk_eq e5 ((blk_set_ne (by omega)).trans b25)
    have bv6 : w5.heap[w1.heap.size]? = some (.cells #[.slice xa (mkList gr.sl).length xc, .slice kb (kn + 1) kd] 27) := by rw [e5]; exact blk_set_eq bv4
    have hx6 : ∃ y, w5 = plus w y := by rw [e5]; exact ex_set_new hx4 (by have := size_ex hTw; omega)
    have rows6 : ∀ j, j < (hs1 ++ [dRH]).length → Own 29 2 f2 Tw w5 (nth dRH (hs1 ++ [dRH]) j).ao (nth dRH (hs1 ++ [dRH]) j).n (nth dRH (hs1 ++ [dRH]) j).cap (nth [] (makeG gr).ks j) := fun j hj => by
      rw [makeG_row, e5]
      by_cases hjl : j < hs1.length
      · rw [nth_append_left hjl]
        exact (grown_own hgr4 (kh3.ex (by with_reducible repeat (first | exact ex_refl _ | exact ex_more | apply ex_alloc | apply ex_plus | apply ex_drew | apply ex_drewN))) ((rows3 j hjl).ex (w' := w3.alloc (.cells #[.slice none 0 0] 36)) (by with_reducible repeat (first | exact ex_refl _ | exact ex_more | apply ex_alloc | apply ex_plus | apply ex_drew | apply ex_drewN))) (by decide)).set_other bv4 (by decide)
      · rw [List.length_append] at hj
        simp only [List.length_cons, List.length_nil] at hj
        rw [nth_append_right (by omega), show j - hs1.length = 0 by omega, nth_ge (l := gr.ks) (by omega)]
        exact own_nil
    have hMk : (makeG gr).ks.length = kn + 1 := by
      show (if gr.ks.length < (mkList gr.sl).length then gr.ks ++ [[]] else gr.ks).length = _
      rw [if_pos (by omega), List.length_append, hlen]
      rfl
    have hMl : (hs1 ++ [dRH]).length = (makeG gr).ks.length := by rw [hMk, List.length_append, hk1]; rfl
    rw [← e5] at ox5 kh5
    clear e5 ox3 kh3 rows3 bA5 bH5 b15 b25 bv4 hgr4 ok4 hx4 a0 v1 y1 bA3 bH3 b13 b23 bv3 hx3 lA3 lv3
    have f0 := cell_blk (i := 0) bv6 rfl
    have f1 := cell_blk (i := 1) bv6 rfl
    have f2' := cell_blk (i := 0) bH6 rfl
    have f3' := cell_blk (i := 1) bH6 rfl
    have nb : w.heap.size + 1 ≠ w.heap.size + 1 + 1 := by omega
    have zT := size_ex hTw
    refine region_relG 5 g10S (g10Φ (.agg #[.slice xa (mkList gr.sl).length xc, .slice kb (kn + 1) kd]) (.agg #[.int .i64 (mkSlot gr.sl), .int .i64 (mkGen gr.sl)]) (w.heap.size + 1) (.cells #[.slice xa (mkList gr.sl).length xc, .slice kb (kn + 1) kd] 27) (w.heap.size + 1 + 1) (.cells #[.int .i64 (mkSlot gr.sl), .int .i64 (mkGen gr.sl)] 29)) (Two (w.heap.size + 1) (.cells #[.slice xa (mkList gr.sl).length xc, .slice kb (kn + 1) kd] 27) (w.heap.size + 1 + 1) (.cells #[.int .i64 (mkSlot gr.sl), .int .i64 (mkGen gr.sl)] 29)) two_trans (two_draw _) (by kernel_rfl) (by kernel_rfl) (by decide) (g10Φ_mono _ _ _ _ _ _) ?steps ?fin
    case steps =>
      refine ⟨?_, ?_, ?_, ?_, ?_, trivial⟩
      · intro a w' hg hfree hdeep
        have f8' := hfree 8 (by kernel_rfl)
        have e0 := two_cell hg f0 (by omega) (by omega)
        have e1 := two_cell hg f1 (by omega) (by omega)
        simp only [g10Φ, got] at f8'
        simp [go_sem] at f8'
        unfold Oper.wp
        simp [go_sem, execOp, Act.eval, ↓IntWalk.iteOmega, f8', e0, e1]
        exact ⟨_, rfl, two_refl _, by simp [g10Φ, upd]⟩
      · intro a w' hg hfree hdeep
        have f6' := hfree 6 (by kernel_rfl)
        have e0 := two_cell hg f2' (by omega) (by omega)
        have e1 := two_cell hg f3' (by omega) (by omega)
        simp only [g10Φ, got] at f6'
        simp [go_sem] at f6'
        unfold Oper.wp
        simp [go_sem, execOp, Act.eval, ↓IntWalk.iteOmega, f6', e0, e1]
        exact ⟨_, rfl, two_refl _, by simp [g10Φ, upd]⟩
      · intro a w' hg hfree hdeep
        have f2 := hfree 2 (by kernel_rfl)
        have d0 := hdeep 0 (by kernel_rfl)
        simp only [g10Φ, got] at f2 d0
        simp [go_sem] at f2
        rcases two_one hg b16 with hb | hb
        · have c0' := cell_blk (i := 0) hb rfl; have z0' := frozen_blk (i := 0) hb; have c1' := cell_blk (i := 1) hb rfl; have z1' := frozen_blk (i := 1) hb
          unfold Oper.wp
          simp [go_sem, execOp, Act.eval, f2, d0, c0', z0', c1', z1']
          exact ⟨two_set12 nb (blk_set_eq (blk_set_eq hb)), undef, blk_set_eq (blk_set_eq hb)⟩
        · have c0' := cell_blk (i := 0) hb rfl; have z0' := frozen_blk (i := 0) hb; have c1' := cell_blk (i := 1) hb rfl; have z1' := frozen_blk (i := 1) hb
          unfold Oper.wp
          simp [go_sem, execOp, Act.eval, f2, d0, c0', z0', c1', z1']
          exact ⟨two_set12 nb (blk_set_eq (blk_set_eq hb)), undef, blk_set_eq (blk_set_eq hb)⟩
      · intro a w' hg hfree hdeep
        have f3 := hfree 3 (by kernel_rfl)
        have d1 := hdeep 1 (by kernel_rfl)
        simp only [g10Φ, got] at f3 d1
        simp [go_sem] at f3
        rcases two_two hg b26 with hb | hb
        · have c0' := cell_blk (i := 0) hb rfl; have z0' := frozen_blk (i := 0) hb; have c1' := cell_blk (i := 1) hb rfl; have z1' := frozen_blk (i := 1) hb
          unfold Oper.wp
          simp [go_sem, execOp, Act.eval, f3, d1, c0', z0', c1', z1']
          exact ⟨two_set2 nb (blk_set_eq (blk_set_eq hb)), undef, blk_set_eq (blk_set_eq hb)⟩
        · have c0' := cell_blk (i := 0) hb rfl; have z0' := frozen_blk (i := 0) hb; have c1' := cell_blk (i := 1) hb rfl; have z1' := frozen_blk (i := 1) hb
          unfold Oper.wp
          simp [go_sem, execOp, Act.eval, f3, d1, c0', z0', c1', z1']
          exact ⟨two_set2 nb (blk_set_eq (blk_set_eq hb)), undef, blk_set_eq (blk_set_eq hb)⟩
      · intro a w' hg hfree hdeep
        unfold Oper.wp
        simp [go_sem, execOp, Act.eval, ↓IntWalk.iteOmega]
        exact ⟨_, rfl, two_refl _, by simp [g10Φ, upd]⟩
    case fin =>
      rintro t w9 hg hΦ
      have h9 := hΦ 2 (by decide)
      have h10 := hΦ 3 (by decide)
      have h11 := hΦ 4 (by decide)
      simp only [g10Φ] at h9 h10 h11
      have ox9 := ox5.two hg b16 b26 (by decide) (by decide)
      have kh9 := kh5.two hg b16 b26 (by decide) (by decide)
      have rows9 : ∀ j, j < (hs1 ++ [dRH]).length → Own 29 2 f2 w w9 (nth dRH (hs1 ++ [dRH]) j).ao (nth dRH (hs1 ++ [dRH]) j).n (nth dRH (hs1 ++ [dRH]) j).cap (nth [] (makeG gr).ks j) := fun j hj => ((rows6 j hj).two_same hg b16 (by decide) l20).base zT
      have hx9 := two_ex hg hx6 (by omega) (by omega)
      simp only [putAll, List.take_succ_cons, List.take_zero, List.take_nil, Act.put]
      simp only [List.setIfInBounds_toArray, List.set_cons_succ, List.set_cons_zero, h11]
      simp only [List.drop_succ_cons, List.drop_zero]
      have k0 := cell_blk (i := 0) h9 rfl
      have k1 := cell_blk (i := 1) h9 rfl
      have k2 := cell_blk (i := 0) h10 rfl
      have k3 := cell_blk (i := 1) h10 rfl
      clear hΦ hg f0 f1 f2' f3' rows6 ox5 kh5 bH6 b16 b26 bv6 hx6
      go_wp2
      have hpost : RetGM w (makeG gr) (mkSlot gr.sl) (mkGen gr.sl) 0 (.returned (.tuple #[.agg #[.slice xa (mkList gr.sl).length xc, .slice kb (kn + 1) kd], .agg #[.int .i64 (mkSlot gr.sl), .int .i64 (mkGen gr.sl)], .int .i64 0])) w9 := by
        refine ⟨xa, xc, kb, kd, (hs1 ++ [dRH]), ?_, hx9, ?_⟩
        · rw [hMk]; rfl
        · rw [hMk]; exact ⟨ox9, kh9, hMl, rows9⟩
      exact bodyPost_ret (v := .tuple #[.agg #[.slice xa (mkList gr.sl).length xc, .slice kb (kn + 1) kd], .agg #[.int .i64 (mkSlot gr.sl), .int .i64 (mkGen gr.sl)], .int .i64 0]) (by simp [results, Try.results19, go_sem, k0, k1, k2, k3]) rfl hpost
  · have ilt : ¬ (kn : Int) < ((mkList gr.sl).length : Int) := by omega
    have hMk : (makeG gr).ks.length = kn := by
      show (if gr.ks.length < (mkList gr.sl).length then gr.ks ++ [[]] else gr.ks).length = _
      rw [if_neg (by omega), hlen]
    have hMl : hs1.length = (makeG gr).ks.length := by rw [hMk, hk1]
    go_upto_region 10 with fail
    have rows6 : ∀ j, j < hs1.length → Own 29 2 f2 Tw w3 (nth dRH hs1 j).ao (nth dRH hs1 j).n (nth dRH hs1 j).cap (nth [] (makeG gr).ks j) := fun j hj => by rw [makeG_row]; exact rows3 j hj
    clear rows3 a0 v1 y1
    have f0 := cell_blk (i := 0) bv3 rfl
    have f1 := cell_blk (i := 1) bv3 rfl
    have f2' := cell_blk (i := 0) bH3 rfl
    have f3' := cell_blk (i := 1) bH3 rfl
    have nb : w.heap.size + 1 ≠ w.heap.size + 1 + 1 := by omega
    have zT := size_ex hTw
    refine region_relG 5 g10S (g10Φ (.agg #[.slice xa (mkList gr.sl).length xc, .slice ka kn kc]) (.agg #[.int .i64 (mkSlot gr.sl), .int .i64 (mkGen gr.sl)]) (w.heap.size + 1) (.cells #[.slice xa (mkList gr.sl).length xc, .slice ka kn kc] 27) (w.heap.size + 1 + 1) (.cells #[.int .i64 (mkSlot gr.sl), .int .i64 (mkGen gr.sl)] 29)) (Two (w.heap.size + 1) (.cells #[.slice xa (mkList gr.sl).length xc, .slice ka kn kc] 27) (w.heap.size + 1 + 1) (.cells #[.int .i64 (mkSlot gr.sl), .int .i64 (mkGen gr.sl)] 29)) two_trans (two_draw _) (by kernel_rfl) (by kernel_rfl) (by decide) (g10Φ_mono _ _ _ _ _ _) ?steps ?fin
    case steps =>
      refine ⟨?_, ?_, ?_, ?_, ?_, trivial⟩
      · intro a w' hg hfree hdeep
        have f8' := hfree 8 (by kernel_rfl)
        have e0 := two_cell hg f0 (by omega) (by omega)
        have e1 := two_cell hg f1 (by omega) (by omega)
        simp only [g10Φ, got] at f8'
        simp [go_sem] at f8'
        unfold Oper.wp
        simp [go_sem, execOp, Act.eval, ↓IntWalk.iteOmega, f8', e0, e1]
        exact ⟨_, rfl, two_refl _, by simp [g10Φ, upd]⟩
      · intro a w' hg hfree hdeep
        have f6' := hfree 6 (by kernel_rfl)
        have e0 := two_cell hg f2' (by omega) (by omega)
        have e1 := two_cell hg f3' (by omega) (by omega)
        simp only [g10Φ, got] at f6'
        simp [go_sem] at f6'
        unfold Oper.wp
        simp [go_sem, execOp, Act.eval, ↓IntWalk.iteOmega, f6', e0, e1]
        exact ⟨_, rfl, two_refl _, by simp [g10Φ, upd]⟩
      · intro a w' hg hfree hdeep
        have f2 := hfree 2 (by kernel_rfl)
        have d0 := hdeep 0 (by kernel_rfl)
        simp only [g10Φ, got] at f2 d0
        simp [go_sem] at f2
        rcases two_one hg b13 with hb | hb
        · have c0' := cell_blk (i := 0) hb rfl; have z0' := frozen_blk (i := 0) hb; have c1' := cell_blk (i := 1) hb rfl; have z1' := frozen_blk (i := 1) hb
          unfold Oper.wp
          simp [go_sem, execOp, Act.eval, f2, d0, c0', z0', c1', z1']
          exact ⟨two_set12 nb (blk_set_eq (blk_set_eq hb)), undef, blk_set_eq (blk_set_eq hb)⟩
        · have c0' := cell_blk (i := 0) hb rfl; have z0' := frozen_blk (i := 0) hb; have c1' := cell_blk (i := 1) hb rfl; have z1' := frozen_blk (i := 1) hb
          unfold Oper.wp
          simp [go_sem, execOp, Act.eval, f2, d0, c0', z0', c1', z1']
          exact ⟨two_set12 nb (blk_set_eq (blk_set_eq hb)), undef, blk_set_eq (blk_set_eq hb)⟩
      · intro a w' hg hfree hdeep
        have f3 := hfree 3 (by kernel_rfl)
        have d1 := hdeep 1 (by kernel_rfl)
        simp only [g10Φ, got] at f3 d1
        simp [go_sem] at f3
        rcases two_two hg b23 with hb | hb
        · have c0' := cell_blk (i := 0) hb rfl; have z0' := frozen_blk (i := 0) hb; have c1' := cell_blk (i := 1) hb rfl; have z1' := frozen_blk (i := 1) hb
          unfold Oper.wp
          simp [go_sem, execOp, Act.eval, f3, d1, c0', z0', c1', z1']
          exact ⟨two_set2 nb (blk_set_eq (blk_set_eq hb)), undef, blk_set_eq (blk_set_eq hb)⟩
        · have c0' := cell_blk (i := 0) hb rfl; have z0' := frozen_blk (i := 0) hb; have c1' := cell_blk (i := 1) hb rfl; have z1' := frozen_blk (i := 1) hb
          unfold Oper.wp
          simp [go_sem, execOp, Act.eval, f3, d1, c0', z0', c1', z1']
          exact ⟨two_set2 nb (blk_set_eq (blk_set_eq hb)), undef, blk_set_eq (blk_set_eq hb)⟩
      · intro a w' hg hfree hdeep
        unfold Oper.wp
        simp [go_sem, execOp, Act.eval, ↓IntWalk.iteOmega]
        exact ⟨_, rfl, two_refl _, by simp [g10Φ, upd]⟩
    case fin =>
      rintro t w9 hg hΦ
      have h9 := hΦ 2 (by decide)
      have h10 := hΦ 3 (by decide)
      have h11 := hΦ 4 (by decide)
      simp only [g10Φ] at h9 h10 h11
      have ox9 := ox3.two hg b13 b23 (by decide) (by decide)
      have kh9 := kh3.two hg b13 b23 (by decide) (by decide)
      have rows9 : ∀ j, j < hs1.length → Own 29 2 f2 w w9 (nth dRH hs1 j).ao (nth dRH hs1 j).n (nth dRH hs1 j).cap (nth [] (makeG gr).ks j) := fun j hj => ((rows6 j hj).two_same hg b13 (by decide) l20).base zT
      have hx9 := two_ex hg hx3 (by omega) (by omega)
      simp only [putAll, List.take_succ_cons, List.take_zero, List.take_nil, Act.put]
      simp only [List.setIfInBounds_toArray, List.set_cons_succ, List.set_cons_zero, h11]
      simp only [List.drop_succ_cons, List.drop_zero]
      have k0 := cell_blk (i := 0) h9 rfl
      have k1 := cell_blk (i := 1) h9 rfl
      have k2 := cell_blk (i := 0) h10 rfl
      have k3 := cell_blk (i := 1) h10 rfl
      clear hΦ hg f0 f1 f2' f3' rows6 ox3 kh3 bH3 b13 b23 bv3 hx3
      go_wp2
      have hpost : RetGM w (makeG gr) (mkSlot gr.sl) (mkGen gr.sl) 0 (.returned (.tuple #[.agg #[.slice xa (mkList gr.sl).length xc, .slice ka kn kc], .agg #[.int .i64 (mkSlot gr.sl), .int .i64 (mkGen gr.sl)], .int .i64 0])) w9 := by
        refine ⟨xa, xc, ka, kc, hs1, ?_, hx9, ?_⟩
        · rw [hMk]; rfl
        · rw [hMk]; exact ⟨ox9, kh9, hMl, rows9⟩
      exact bodyPost_ret (v := .tuple #[.agg #[.slice xa (mkList gr.sl).length xc, .slice ka kn kc], .agg #[.int .i64 (mkSlot gr.sl), .int .i64 (mkGen gr.sl)], .int .i64 0]) (by simp [results, Try.results19, go_sem, k0, k1, k2, k3]) rfl hpost

end Go.Proofs.Ytmmflpjfgapaaaa
