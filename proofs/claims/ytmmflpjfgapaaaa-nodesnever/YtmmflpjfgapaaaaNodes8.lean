/- What dioramaref06.Unlink and Link give. -/
import Derived.Test.YtmmflpjfgapaaaaNodes7
namespace Go.Proofs.Ytmmflpjfgapaaaa
open Go.RowKit Go.ChangeShapes Go.WideShapes Go.ChangeAt
set_option linter.unusedSimpArgs false
set_option linter.unusedVariables false
attribute [local go_sem] plus_size plus_drew dn_set dn_alloc dn_plus plus_dn cell_plus frozen_plus set_plus cell_alloc frozen_alloc set_alloc

theorem Lay.take {α : Type} {f : α → List Value} {w : World} {ao : Option Addr} {n k c : Nat} {l : List α} (h : Lay f w ao n l) (hc : ∀ x, (f x).length = c) (hk : k ≤ n) : Lay f w ao k (l.take k) := by
  refine ⟨by rw [List.length_take, h.len]; omega, ?_⟩
  by_cases h0 : k = 0
  · exact .inl h0
  · obtain ⟨g, off, e, hg, hcell⟩ := h.some (by omega)
    refine .inr ⟨g, off, e, hg, fun j u hu => hcell j u ?_⟩
    have hl : l.flatMap f = (l.take k).flatMap f ++ (l.drop k).flatMap f := by rw [← List.flatMap_append, List.take_append_drop]
    rw [hl, List.getElem?_append_left (List.getElem?_eq_some_iff.1 hu).1]
    exact hu
theorem Lay.drop {α : Type} {f : α → List Value} {w : World} {g off n k c : Nat} {l : List α} (h : Lay f w (Option.some ⟨g, off, none⟩) n l) (hc : ∀ x, (f x).length = c) (hk : k ≤ n) : Lay f w (Option.some ⟨g, off + k * c, none⟩) (n - k) (l.drop k) := by
  refine ⟨by rw [List.length_drop, h.len], ?_⟩
  by_cases h0 : n - k = 0
  · exact .inl h0
  · obtain ⟨_, _, e, hg, hcell⟩ := h.some (by omega)
    cases e
    refine .inr ⟨g, off + k * c, rfl, hg, fun j u hu => ?_⟩
    rw [Nat.add_assoc]
    refine hcell (k * c + j) u ?_
    have hl : l.flatMap f = (l.take k).flatMap f ++ (l.drop k).flatMap f := by rw [← List.flatMap_append, List.take_append_drop]
    have hlen : ((l.take k).flatMap f).length = k * c := by rw [flat_length hc, List.length_take, h.len, Nat.min_eq_left hk]
    rw [hl, List.getElem?_append_right (by omega), hlen, Nat.add_sub_cancel_left]
    exact hu
theorem GrOwn.setRow {T w : World} {ao : Option Addr} {n cap kb kn kcap : Nat} {hs : List RH} {g : Gr} {k : Nat} {r : RH} {l : List (Int × Int)} (h : GrOwn T w ao n cap (some ⟨kb, 0, none⟩) kn kcap hs g) (hk : k < kn) (o : Own 29 2 f2 T w r.ao r.n r.cap l) :
    GrOwn T (w.setCell ⟨kb, k, none⟩ (.slice r.ao r.n r.cap)) ao n cap (some ⟨kb, 0, none⟩) kn kcap (hs.set k r) ⟨g.sl, g.ks.set k l⟩ := by
  obtain ⟨_, cur, e0, _, hb, _⟩ := h.kh.blk (by omega)
  cases e0
  have hs1 := h.kh.set_self (u := .slice r.ao r.n r.cap) k 0 r dRH hk fR_c (by decide) rfl
  rw [Nat.mul_one, Nat.add_zero] at hs1
  have hl := h.kh.1
  have hkl := h.kl
  refine ⟨h.sl.set_other hb (by decide), hs1, by show (hs.set k r).length = (g.ks.set k l).length; rw [List.length_set, List.length_set]; exact h.len, fun j hj => ?_⟩
  rw [List.length_set] at hj
  show Own 29 2 f2 T _ _ _ _ (nth [] (g.ks.set k l) j)
  rw [nth_set' (by omega), nth_set' (by omega)]
  by_cases e : j = k
  · rw [if_pos e, if_pos e]
    exact o.set_other hb (by decide)
  · rw [if_neg e, if_neg e]
    exact (h.row j hj).set_other hb (by decide)

def zeroG : Gr := ⟨[], []⟩
def RetG (w : World) (g : Gr) (er : Int) (e : Ending) (w' : World) : Prop := ∃ ao' cap' ko' kcap' hs', e = .returned (.tuple #[.agg #[.slice ao' g.sl.length cap', .slice ko' g.ks.length kcap'], .int .i64 er]) ∧ (∃ y, w' = plus w y) ∧ GrOwn w w' ao' g.sl.length cap' ko' g.ks.length kcap' hs' g
theorem own_zero {T w : World} : GrOwn T w none 0 0 none 0 0 [] zeroG := ⟨own_nil, own_nil, rfl, fun k hk => by simp at hk⟩
def unlinkRes (g : Gr) (p : Int × Int) (k : Int) : Gr := if unlinkErr g p k = 0 then unlinkG g p k else zeroG

set_option maxRecDepth 100000 in
set_option maxHeartbeats 8000000 in
theorem gunlink_calls (ao : Option Addr) (n cap : Nat) (ko : Option Addr) (kn kcap : Nat) (hs : List RH) (gr : Gr) (s g pos : Int) (w : World) (hG : GrAt w ao n ko kn hs gr) :
    Calls Try.prog 22 #[.agg #[.slice ao n cap, .slice ko kn kcap], .agg #[.int .i64 s, .int .i64 g], .int .i64 pos] w fun e w' => RetG w (unlinkRes gr (s, g) pos) (unlinkErr gr (s, g) pos) e w' := by
  have hlen := hG.kl
  have hkh := hG.kh.len
  have hsl := hG.sl.len
  rcases ask_err gr (s, g) (s, g) with he | he | he
  rotate_left
  · have hu : unlinkErr gr (s, g) pos = 8 := by rw [unlinkErr, he, if_neg (by decide)]
    rw [hu, show unlinkRes gr (s, g) pos = zeroG by rw [unlinkRes, hu]; rfl]
    go_enter Try.func22, Try.ntmps22
    go_wp2_with (go_at_call 52; refine (plus_post (asked_is he (hG.ex (by with_reducible repeat (first | exact ex_refl _ | exact ex_more | apply ex_alloc | apply ex_plus | apply ex_drew | apply ex_drewN))))).mono ?_; rintro e w' ⟨rfl, nx, rfl⟩)
    exact bodyPost_ret (v := .tuple #[.agg #[.slice none 0 0, .slice none 0 0], .int .i64 8]) (by simp [results, Try.results22, go_sem, ↓IntWalk.iteOmega]) rfl ⟨none, 0, none, 0, [], rfl, (by with_reducible repeat (first | exact ex_refl _ | exact ex_more | apply ex_alloc | apply ex_plus | apply ex_drew | apply ex_drewN)), own_zero⟩
  · have hu : unlinkErr gr (s, g) pos = 50 := by rw [unlinkErr, he, if_neg (by decide)]
    rw [hu, show unlinkRes gr (s, g) pos = zeroG by rw [unlinkRes, hu]; rfl]
    go_enter Try.func22, Try.ntmps22
    go_wp2_with (go_at_call 52; refine (plus_post (asked_is he (hG.ex (by with_reducible repeat (first | exact ex_refl _ | exact ex_more | apply ex_alloc | apply ex_plus | apply ex_drew | apply ex_drewN))))).mono ?_; rintro e w' ⟨rfl, nx, rfl⟩)
    exact bodyPost_ret (v := .tuple #[.agg #[.slice none 0 0, .slice none 0 0], .int .i64 50]) (by simp [results, Try.results22, go_sem, ↓IntWalk.iteOmega]) rfl ⟨none, 0, none, 0, [], rfl, (by with_reducible repeat (first | exact ex_refl _ | exact ex_more | apply ex_alloc | apply ex_plus | apply ex_drew | apply ex_drewN)), own_zero⟩
  obtain ⟨hok, hh, _⟩ := ask_ok he
  have hl := held_lt hh
  simp only at hl
  obtain ⟨_, h2, _, _⟩ := gr_parts hok
  obtain ⟨k, rfl⟩ : ∃ k : Nat, s = (k : Int) := ⟨s.toNat, by omega⟩
  rw [Int.toNat_natCast] at hl
  have hkl : k < kn := by omega
  have ik : (k : Int) < (kn : Int) := by omega
  obtain ⟨kg, kf, rfl, hkg, hkc⟩ := hG.kh.some (by omega)
  have c1 := cellR hkh hkc hkl
  have hrow := hG.row k (by omega)
  have hrl := hrow.len
  have hn3 := hG.n3 k (by omega)
  have hn4 := hG.n4 k (by omega)
  have hra : rowAt gr ((k : Int), g) = nth [] gr.ks k := by rw [rowAt]; show nth [] gr.ks ((k : Int)).toNat = _; rw [Int.toNat_natCast]
  have hue : unlinkErr gr ((k : Int), g) pos = if 0 ≤ pos ∧ pos < ((nth dRH hs k).n : Int) then 0 else 2 := by rw [unlinkErr, he, if_pos rfl, hra, hrl]
  by_cases hp0 : pos < 0
  · rw [if_neg (by omega)] at hue
    rw [hue, show unlinkRes gr ((k : Int), g) pos = zeroG by rw [unlinkRes, hue]; rfl]
    go_enter Try.func22, Try.ntmps22
    go_wp2_with (go_at_call 52; refine (plus_post (asked_is he (hG.ex (by with_reducible repeat (first | exact ex_refl _ | exact ex_more | apply ex_alloc | apply ex_plus | apply ex_drew | apply ex_drewN))))).mono ?_; rintro e w' ⟨rfl, nx, rfl⟩)
    exact bodyPost_ret (v := .tuple #[.agg #[.slice none 0 0, .slice none 0 0], .int .i64 2]) (by simp [results, Try.results22, go_sem, ↓IntWalk.iteOmega]) rfl ⟨none, 0, none, 0, [], rfl, (by with_reducible repeat (first | exact ex_refl _ | exact ex_more | apply ex_alloc | apply ex_plus | apply ex_drew | apply ex_drewN)), own_zero⟩
  have dp0 := decide_eq_false hp0
  obtain ⟨p, rfl⟩ : ∃ p : Nat, pos = (p : Int) := ⟨pos.toNat, by omega⟩
  by_cases hp1 : (nth dRH hs k).n ≤ p
  · have ip1 : ((nth dRH hs k).n : Int) ≤ (p : Int) := by omega
    rw [if_neg (by omega)] at hue
    rw [hue, show unlinkRes gr ((k : Int), g) p = zeroG by rw [unlinkRes, hue]; rfl]
    go_enter Try.func22, Try.ntmps22
    go_wp2_with (go_at_call 52; refine (plus_post (asked_is he (hG.ex (by with_reducible repeat (first | exact ex_refl _ | exact ex_more | apply ex_alloc | apply ex_plus | apply ex_drew | apply ex_drewN))))).mono ?_; rintro e w' ⟨rfl, nx, rfl⟩)
    exact bodyPost_ret (v := .tuple #[.agg #[.slice none 0 0, .slice none 0 0], .int .i64 2]) (by simp [results, Try.results22, go_sem, ↓IntWalk.iteOmega]) rfl ⟨none, 0, none, 0, [], rfl, (by with_reducible repeat (first | exact ex_refl _ | exact ex_more | apply ex_alloc | apply ex_plus | apply ex_drew | apply ex_drewN)), own_zero⟩
  have ip1 : ¬ ((nth dRH hs k).n : Int) ≤ (p : Int) := by omega
  have dp1 := decide_eq_false ip1
  rw [if_pos (by omega)] at hue
  have hres : unlinkRes gr ((k : Int), g) p = ⟨gr.sl, gr.ks.set k (cut (nth [] gr.ks k) p)⟩ := by
    rw [unlinkRes, hue, if_pos rfl, unlinkG, hra]
    show Gr.mk gr.sl (gr.ks.set ((k : Int)).toNat (cut (nth [] gr.ks k) ((p : Int)).toNat)) = _
    rw [Int.toNat_natCast, Int.toNat_natCast]
  rw [hue, hres]
  go_enter Try.func22, Try.ntmps22
  go_upto_region 8 with (first | (go_at_call 52; refine (plus_post (asked_is he (hG.ex (by with_reducible repeat (first | exact ex_refl _ | exact ex_more | apply ex_alloc | apply ex_plus | apply ex_drew | apply ex_drewN))))).mono ?_; rintro e w' ⟨rfl, nx, rfl⟩) | (go_at_call 17; refine (gtwin_calls _ _ _ _ _ _ hs gr _ (hG.ex (by with_reducible repeat (first | exact ex_refl _ | exact ex_more | apply ex_alloc | apply ex_plus | apply ex_drew | apply ex_drewN)))).mono ?_; rintro e w1 ⟨a1, c1, ka, kc, hs1, rfl, hw1, og⟩))
  have hzw := size_ex hw1
  have og2 := (og.ex (ex_alloc (o := (.cells #[.slice a1 n c1, .slice ka kn kc] 27)) (ex_refl w1))).base (T' := w) (by simp [go_sem]; omega)
  have hx2 : ∃ y, w1.alloc (.cells #[.slice a1 n c1, .slice ka kn kc] 27) = plus w y := (by with_reducible repeat (first | exact ex_refl _ | exact ex_more | apply ex_alloc | apply ex_plus | apply ex_drew | apply ex_drewN | (apply ex_on; assumption)))
  have bv : (w1.alloc (.cells #[.slice a1 n c1, .slice ka kn kc] 27)).heap[w1.heap.size]? = some (.cells #[.slice a1 n c1, .slice ka kn kc] 27) := by rw [blk_alloc, if_pos rfl]
  have bh : (w1.alloc (.cells #[.slice a1 n c1, .slice ka kn kc] 27)).heap[w.heap.size + 1]? = some (.cells #[.int .i64 k, .int .i64 g] 29) := blk_ex (w := ((w.alloc (.cells #[.slice ao n cap, .slice (some ⟨kg, kf, none⟩) kn kcap] 27)).alloc (.cells #[.int .i64 k, .int .i64 g] 29))) (by with_reducible repeat (first | exact ex_refl _ | exact ex_more | apply ex_alloc | apply ex_plus | apply ex_drew | apply ex_drewN | (apply ex_on; assumption))) (by rw [blk_alloc, if_pos (by simp)])
  have br : (w1.alloc (.cells #[.slice a1 n c1, .slice ka kn kc] 27)).heap[w.heap.size + 1 + 1]? = some (.cells #[.slice none 0 0, .slice none 0 0] 27) := blk_ex (w := (((w.alloc (.cells #[.slice ao n cap, .slice (some ⟨kg, kf, none⟩) kn kcap] 27)).alloc (.cells #[.int .i64 k, .int .i64 g] 29)).alloc (.cells #[.slice none 0 0, .slice none 0 0] 27))) (by with_reducible repeat (first | exact ex_refl _ | exact ex_more | apply ex_alloc | apply ex_plus | apply ex_drew | apply ex_drewN | (apply ex_on; assumption))) (by rw [blk_alloc, if_pos (by simp)])
  clear og
  have lv := blk_lt bv
  generalize w1.alloc (.cells #[.slice a1 n c1, .slice ka kn kc] 27) = w2 at *
  obtain ⟨kb, kcur, rfl, hkb, hkbb, _⟩ := og2.kh.blk (by omega)
  have v0 := cell_blk (i := 0) bv rfl
  have v1 := cell_blk (i := 1) bv rfl
  have h0 := cell_blk (i := 0) bh rfl
  have lh := blk_lt bh
  have lr := blk_lt br
  obtain ⟨rg, ro, hrA, hrg, hrc⟩ := hrow.some (by omega)
  have hrowW := hrow.ex hx2
  have hT1 := hrowW.take f2_c (k := p) (by omega)
  rw [hrA] at hrowW hT1
  have hT2 := hrowW.drop f2_c (k := p + 1) (by omega)
  have iw1 : IntKind.i64.wrap ((p : Int) + 1) = (p : Int) + 1 := wrap_le (by omega)
  have hcl : (cut (nth [] gr.ks k) p).length = p + ((nth dRH hs k).n - (p + 1)) := by rw [cut, List.length_append, List.length_take, List.length_drop, hrl]; omega
  go_upto_region 10 with (at_builtin; refine wpList_append_lay (T := w2) (l := []) rfl _ _ rfl kinH f2_c f2_1 rfl (by with_reducible repeat (first | exact ex_refl _ | exact ex_more | apply ex_alloc | apply ex_plus | apply ex_drew | apply ex_drewN)) own_nil rfl hT1 (by omega) (by decide) ?_; intro na nc y1 hown1; rw [Nat.zero_add, List.nil_append] at hown1)
  by_cases hcp : (nth dRH hs k).cap = p + 1
  · have hT3 : Lay f2 w2 (some ⟨rg, ro, none⟩) ((nth dRH hs k).n - (p + 1)) ((nth [] gr.ks k).drop (p + 1)) := ⟨by rw [List.length_drop, hrl], .inl (by omega)⟩
    go_upto_region 11 with (at_builtin; refine wpList_append_lay (T := w2) rfl _ _ rfl kinH f2_c f2_1 rfl (by with_reducible repeat (first | exact ex_refl _ | exact ex_more | apply ex_alloc | apply ex_plus | apply ex_drew | apply ex_drewN)) (hown1.ex (by with_reducible repeat (first | exact ex_refl _ | exact ex_more | apply ex_alloc | apply ex_plus | apply ex_drew | apply ex_drewN))) rfl (hT3.ex (by with_reducible repeat (first | exact ex_refl _ | exact ex_more | apply ex_alloc | apply ex_plus | apply ex_drew | apply ex_drewN))) (by omega) (by decide) ?_; intro nb nd y2 hown2)
    refine name_world (fun w' => (∃ y, w' = plus w y) ∧ GrOwn w w' a1 n c1 (some ⟨kb, 0, none⟩) kn kc hs1 gr ∧ w'.heap[w1.heap.size]? = some (.cells #[.slice a1 n c1, .slice (some ⟨kb, 0, none⟩) kn kc] 27) ∧ w'.heap[w.heap.size + 1]? = some (.cells #[.int .i64 k, .int .i64 g] 29) ∧ w'.heap[w.heap.size + 1 + 1]? = some (.cells #[.slice none 0 0, .slice none 0 0] 27) ∧ Own 29 2 f2 w w' nb (p + ((nth dRH hs k).n - (p + 1))) nd (cut (nth [] gr.ks k) p)) ⟨ex_on (by with_reducible repeat (first | exact ex_refl _ | exact ex_more | apply ex_alloc | apply ex_plus | apply ex_drew | apply ex_drewN)) hx2, og2.ex (by with_reducible repeat (first | exact ex_refl _ | exact ex_more | apply ex_alloc | apply ex_plus | apply ex_drew | apply ex_drewN)), blk_ex (by with_reducible repeat (first | exact ex_refl _ | exact ex_more | apply ex_alloc | apply ex_plus | apply ex_drew | apply ex_drewN)) bv, blk_ex (by with_reducible repeat (first | exact ex_refl _ | exact ex_more | apply ex_alloc | apply ex_plus | apply ex_drew | apply ex_drewN)) bh, blk_ex (by with_reducible repeat (first | exact ex_refl _ | exact ex_more | apply ex_alloc | apply ex_plus | apply ex_drew | apply ex_drewN)) br, hown2.base (size_ex hx2)⟩ ?_
    rintro w6 ⟨hx6, og6, bv6, bh6, br6, on6⟩
    clear og2 bv bh br v0 v1 h0 hown1 hown2 hkbb lh lr lv
    obtain ⟨_, kcur6, e0, _, hkb6, _⟩ := og6.kh.blk (by omega)
    cases e0
    have v1 := cell_blk (i := 1) bv6 rfl
    have v0 := cell_blk (i := 0) bv6 rfl
    have h0 := cell_blk (i := 0) bh6 rfl
    obtain ⟨_, _, e0, lkb, hkc6⟩ := og6.kh.lay.some (by omega)
    cases e0
    have q0 := cellR og6.kh.1 hkc6 hkl
    rw [Nat.zero_add] at q0
    have z0 := frozen_blk (i := k) hkb6
    have og7 := og6.setRow (k := k) (r := ⟨nb, p + ((nth dRH hs k).n - (p + 1)), nd⟩) hkl on6
    have nv : kb ≠ w1.heap.size := by
      intro e0
      rw [e0, bv6] at hkb6
      cases hkb6
    have nr : kb ≠ w.heap.size + 1 + 1 := by
      intro e0
      rw [e0, br6] at hkb6
      cases hkb6
    have bv7 : (w6.setCell ⟨kb, k, none⟩ (.slice nb (p + ((nth dRH hs k).n - (p + 1))) nd)).heap[w1.heap.size]? = _ := (blk_set_ne nv).trans bv6
    have br7 : (w6.setCell ⟨kb, k, none⟩ (.slice nb (p + ((nth dRH hs k).n - (p + 1))) nd)).heap[w.heap.size + 1 + 1]? = _ := (blk_set_ne nr).trans br6
    have hx7 : ∃ y, w6.setCell ⟨kb, k, none⟩ (.slice nb (p + ((nth dRH hs k).n - (p + 1))) nd) = plus w y := ex_set_new hx6 hkb
    go_upto_region 12 with fail
    refine name_world (fun w' => w' = w6.setCell ⟨kb, k, none⟩ (.slice nb (p + ((nth dRH hs k).n - (p + 1))) nd)) rfl ?_
    rintro w7 e7
    rw [← e7] at og7 bv7 br7 hx7
    clear e7 og6 bv6 bh6 br6 on6 hkb6 v0 v1 h0 q0 z0 hkc6
    have v0 := cell_blk (i := 0) bv7 rfl
    have v1 := cell_blk (i := 1) bv7 rfl
    have r0 := cell_blk (i := 0) br7 rfl
    have r1 := cell_blk (i := 1) br7 rfl
    have y0 := frozen_blk (i := 0) br7
    have y1 := frozen_blk (i := 1) br7
    have og8 := (og7.set_other (i := 0) (u := .slice a1 n c1) br7 (by decide) (by decide) (by decide)).set_other (i := 1) (u := .slice (some ⟨kb, 0, none⟩) kn kc) (blk_set_eq br7) (by decide) (by decide) (by decide)
    have br8 := blk_set_eq (i := 1) (u := .slice (some ⟨kb, 0, none⟩) kn kc) (blk_set_eq (i := 0) (u := .slice a1 n c1) br7)
    have hx8 := ex_set_new (i := 1) (u := .slice (some ⟨kb, 0, none⟩) kn kc) (g := w.heap.size + 1 + 1) (ex_set_new (i := 0) (u := .slice a1 n c1) (g := w.heap.size + 1 + 1) hx7 (by omega)) (by omega)
    go_wp2
    generalize (w7.setCell ⟨w.heap.size + 1 + 1, 0, none⟩ (.slice a1 n c1)).setCell ⟨w.heap.size + 1 + 1, 1, none⟩ (.slice (some ⟨kb, 0, none⟩) kn kc) = w9 at *
    have f0 := cell_blk (i := 0) br8 rfl
    have f1 := cell_blk (i := 1) br8 rfl
    have hpost : RetG w ⟨gr.sl, gr.ks.set k (cut (nth [] gr.ks k) p)⟩ 0 (.returned (.tuple #[.agg #[.slice a1 n c1, .slice (some ⟨kb, 0, none⟩) kn kc], .int .i64 0])) w9 := by
      have e2 : (Gr.mk gr.sl (gr.ks.set k (cut (nth [] gr.ks k) p))).ks.length = kn := by show (gr.ks.set k _).length = kn; rw [List.length_set]; exact hlen
      have e1 : (Gr.mk gr.sl (gr.ks.set k (cut (nth [] gr.ks k) p))).sl.length = n := hsl
      refine ⟨a1, c1, some ⟨kb, 0, none⟩, kc, hs1.set k ⟨nb, p + ((nth dRH hs k).n - (p + 1)), nd⟩, ?_, hx8, ?_⟩
      · rw [e1, e2]
      · rw [e1, e2]; exact og8
    exact bodyPost_ret (v := .tuple #[.agg #[.slice a1 n c1, .slice (some ⟨kb, 0, none⟩) kn kc], .int .i64 0]) (by simp [results, Try.results22, go_sem, f0, f1]) rfl hpost
  · skip
    go_upto_region 11 with (at_builtin; refine wpList_append_lay (T := w2) rfl _ _ rfl kinH f2_c f2_1 rfl (by with_reducible repeat (first | exact ex_refl _ | exact ex_more | apply ex_alloc | apply ex_plus | apply ex_drew | apply ex_drewN)) (hown1.ex (by with_reducible repeat (first | exact ex_refl _ | exact ex_more | apply ex_alloc | apply ex_plus | apply ex_drew | apply ex_drewN))) rfl (hT2.ex (by with_reducible repeat (first | exact ex_refl _ | exact ex_more | apply ex_alloc | apply ex_plus | apply ex_drew | apply ex_drewN))) (by omega) (by decide) ?_; intro nb nd y2 hown2)
    refine name_world (fun w' => (∃ y, w' = plus w y) ∧ GrOwn w w' a1 n c1 (some ⟨kb, 0, none⟩) kn kc hs1 gr ∧ w'.heap[w1.heap.size]? = some (.cells #[.slice a1 n c1, .slice (some ⟨kb, 0, none⟩) kn kc] 27) ∧ w'.heap[w.heap.size + 1]? = some (.cells #[.int .i64 k, .int .i64 g] 29) ∧ w'.heap[w.heap.size + 1 + 1]? = some (.cells #[.slice none 0 0, .slice none 0 0] 27) ∧ Own 29 2 f2 w w' nb (p + ((nth dRH hs k).n - (p + 1))) nd (cut (nth [] gr.ks k) p)) ⟨ex_on (by with_reducible repeat (first | exact ex_refl _ | exact ex_more | apply ex_alloc | apply ex_plus | apply ex_drew | apply ex_drewN)) hx2, og2.ex (by with_reducible repeat (first | exact ex_refl _ | exact ex_more | apply ex_alloc | apply ex_plus | apply ex_drew | apply ex_drewN)), blk_ex (by with_reducible repeat (first | exact ex_refl _ | exact ex_more | apply ex_alloc | apply ex_plus | apply ex_drew | apply ex_drewN)) bv, blk_ex (by with_reducible repeat (first | exact ex_refl _ | exact ex_more | apply ex_alloc | apply ex_plus | apply ex_drew | apply ex_drewN)) bh, blk_ex (by with_reducible repeat (first | exact ex_refl _ | exact ex_more | apply ex_alloc | apply ex_plus | apply ex_drew | apply ex_drewN)) br, hown2.base (size_ex hx2)⟩ ?_
    rintro w6 ⟨hx6, og6, bv6, bh6, br6, on6⟩
    clear og2 bv bh br v0 v1 h0 hown1 hown2 hkbb lh lr lv
    obtain ⟨_, kcur6, e0, _, hkb6, _⟩ := og6.kh.blk (by omega)
    cases e0
    have v1 := cell_blk (i := 1) bv6 rfl
    have v0 := cell_blk (i := 0) bv6 rfl
    have h0 := cell_blk (i := 0) bh6 rfl
    obtain ⟨_, _, e0, lkb, hkc6⟩ := og6.kh.lay.some (by omega)
    cases e0
    have q0 := cellR og6.kh.1 hkc6 hkl
    rw [Nat.zero_add] at q0
    have z0 := frozen_blk (i := k) hkb6
    have og7 := og6.setRow (k := k) (r := ⟨nb, p + ((nth dRH hs k).n - (p + 1)), nd⟩) hkl on6
    have nv : kb ≠ w1.heap.size := by
      intro e0
      rw [e0, bv6] at hkb6
      cases hkb6
    have nr : kb ≠ w.heap.size + 1 + 1 := by
      intro e0
      rw [e0, br6] at hkb6
      cases hkb6
    have bv7 : (w6.setCell ⟨kb, k, none⟩ (.slice nb (p + ((nth dRH hs k).n - (p + 1))) nd)).heap[w1.heap.size]? = _ := (blk_set_ne nv).trans bv6
    have br7 : (w6.setCell ⟨kb, k, none⟩ (.slice nb (p + ((nth dRH hs k).n - (p + 1))) nd)).heap[w.heap.size + 1 + 1]? = _ := (blk_set_ne nr).trans br6
    have hx7 : ∃ y, w6.setCell ⟨kb, k, none⟩ (.slice nb (p + ((nth dRH hs k).n - (p + 1))) nd) = plus w y := ex_set_new hx6 hkb
    go_upto_region 12 with fail
    refine name_world (fun w' => w' = w6.setCell ⟨kb, k, none⟩ (.slice nb (p + ((nth dRH hs k).n - (p + 1))) nd)) rfl ?_
    rintro w7 e7
    rw [← e7] at og7 bv7 br7 hx7
    clear e7 og6 bv6 bh6 br6 on6 hkb6 v0 v1 h0 q0 z0 hkc6
    have v0 := cell_blk (i := 0) bv7 rfl
    have v1 := cell_blk (i := 1) bv7 rfl
    have r0 := cell_blk (i := 0) br7 rfl
    have r1 := cell_blk (i := 1) br7 rfl
    have y0 := frozen_blk (i := 0) br7
    have y1 := frozen_blk (i := 1) br7
    have og8 := (og7.set_other (i := 0) (u := .slice a1 n c1) br7 (by decide) (by decide) (by decide)).set_other (i := 1) (u := .slice (some ⟨kb, 0, none⟩) kn kc) (blk_set_eq br7) (by decide) (by decide) (by decide)
    have br8 := blk_set_eq (i := 1) (u := .slice (some ⟨kb, 0, none⟩) kn kc) (blk_set_eq (i := 0) (u := .slice a1 n c1) br7)
    have hx8 := ex_set_new (i := 1) (u := .slice (some ⟨kb, 0, none⟩) kn kc) (g := w.heap.size + 1 + 1) (ex_set_new (i := 0) (u := .slice a1 n c1) (g := w.heap.size + 1 + 1) hx7 (by omega)) (by omega)
    go_wp2
    generalize (w7.setCell ⟨w.heap.size + 1 + 1, 0, none⟩ (.slice a1 n c1)).setCell ⟨w.heap.size + 1 + 1, 1, none⟩ (.slice (some ⟨kb, 0, none⟩) kn kc) = w9 at *
    have f0 := cell_blk (i := 0) br8 rfl
    have f1 := cell_blk (i := 1) br8 rfl
    have hpost : RetG w ⟨gr.sl, gr.ks.set k (cut (nth [] gr.ks k) p)⟩ 0 (.returned (.tuple #[.agg #[.slice a1 n c1, .slice (some ⟨kb, 0, none⟩) kn kc], .int .i64 0])) w9 := by
      have e2 : (Gr.mk gr.sl (gr.ks.set k (cut (nth [] gr.ks k) p))).ks.length = kn := by show (gr.ks.set k _).length = kn; rw [List.length_set]; exact hlen
      have e1 : (Gr.mk gr.sl (gr.ks.set k (cut (nth [] gr.ks k) p))).sl.length = n := hsl
      refine ⟨a1, c1, some ⟨kb, 0, none⟩, kc, hs1.set k ⟨nb, p + ((nth dRH hs k).n - (p + 1)), nd⟩, ?_, hx8, ?_⟩
      · rw [e1, e2]
      · rw [e1, e2]; exact og8
    exact bodyPost_ret (v := .tuple #[.agg #[.slice a1 n c1, .slice (some ⟨kb, 0, none⟩) kn kc], .int .i64 0]) (by simp [results, Try.results22, go_sem, f0, f1]) rfl hpost

end Go.Proofs.Ytmmflpjfgapaaaa
