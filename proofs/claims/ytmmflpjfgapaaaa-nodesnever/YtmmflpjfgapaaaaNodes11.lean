/- What dioramaref06.Link gives. -/
import Derived.Test.YtmmflpjfgapaaaaNodes10
namespace Go.Proofs.Ytmmflpjfgapaaaa
open Go.RowKit Go.ChangeShapes Go.WideShapes Go.ChangeAt
set_option linter.unusedSimpArgs false
set_option linter.unusedVariables false
attribute [local go_sem] plus_size plus_drew dn_set dn_alloc dn_plus plus_dn cell_plus frozen_plus set_plus cell_alloc frozen_alloc set_alloc

def linkRes (g : Gr) (p c : Int × Int) (k : Int) : Gr := if linkErr g p c k = 0 then linkG g p c k else zeroG

set_option maxRecDepth 100000 in
set_option maxHeartbeats 16000000 in
theorem glink_calls (ao : Option Addr) (n cap : Nat) (ko : Option Addr) (kn kcap : Nat) (hs : List RH) (gr : Gr) (s g x1 x2 pos : Int) (w : World) (hG : GrAt w ao n ko kn hs gr) :
    Calls Try.prog 21 #[.agg #[.slice ao n cap, .slice ko kn kcap], .agg #[.int .i64 s, .int .i64 g], .agg #[.int .i64 x1, .int .i64 x2], .int .i64 pos] w fun e w' => RetG w (linkRes gr (s, g) (x1, x2) pos) (linkErr gr (s, g) (x1, x2) pos) e w' := by
  have hlen := hG.kl
  have hkh := hG.kh.len
  have hsl := hG.sl.len
  have m2 := hG.n2
  rcases ask_err gr (s, g) (x1, x2) with he | he | he
  rotate_left
  · have hu : linkErr gr (s, g) (x1, x2) pos = 8 := by rw [linkErr, he, if_neg (by decide)]
    rw [hu, show linkRes gr (s, g) (x1, x2) pos = zeroG by rw [linkRes, hu]; rfl]
    go_enter Try.func21, Try.ntmps21
    go_wp2_with (go_at_call 52; refine (plus_post (asked_is he (hG.ex (by with_reducible repeat (first | exact ex_refl _ | exact ex_more | apply ex_alloc | apply ex_plus | apply ex_drew | apply ex_drewN))))).mono ?_; rintro e w' ⟨rfl, nx, rfl⟩)
    exact bodyPost_ret (v := .tuple #[.agg #[.slice none 0 0, .slice none 0 0], .int .i64 8]) (by simp [results, Try.results21, go_sem, ↓IntWalk.iteOmega]) rfl ⟨none, 0, none, 0, [], rfl, (by with_reducible repeat (first | exact ex_refl _ | exact ex_more | apply ex_alloc | apply ex_plus | apply ex_drew | apply ex_drewN)), own_zero⟩
  · have hu : linkErr gr (s, g) (x1, x2) pos = 50 := by rw [linkErr, he, if_neg (by decide)]
    rw [hu, show linkRes gr (s, g) (x1, x2) pos = zeroG by rw [linkRes, hu]; rfl]
    go_enter Try.func21, Try.ntmps21
    go_wp2_with (go_at_call 52; refine (plus_post (asked_is he (hG.ex (by with_reducible repeat (first | exact ex_refl _ | exact ex_more | apply ex_alloc | apply ex_plus | apply ex_drew | apply ex_drewN))))).mono ?_; rintro e w' ⟨rfl, nx, rfl⟩)
    exact bodyPost_ret (v := .tuple #[.agg #[.slice none 0 0, .slice none 0 0], .int .i64 50]) (by simp [results, Try.results21, go_sem, ↓IntWalk.iteOmega]) rfl ⟨none, 0, none, 0, [], rfl, (by with_reducible repeat (first | exact ex_refl _ | exact ex_more | apply ex_alloc | apply ex_plus | apply ex_drew | apply ex_drewN)), own_zero⟩
  obtain ⟨hok, hh, hh2⟩ := ask_ok he
  have hl := held_lt hh
  have hl2 := held_lt hh2
  simp only at hl hl2
  obtain ⟨_, h2, h3, _⟩ := gr_parts hok
  obtain ⟨k, rfl⟩ : ∃ k : Nat, s = (k : Int) := ⟨s.toNat, by omega⟩
  obtain ⟨j, rfl⟩ : ∃ j : Nat, x1 = (j : Int) := ⟨x1.toNat, by omega⟩
  rw [Int.toNat_natCast] at hl hl2
  have hkl : k < kn := by omega
  have hjl : j < kn := by omega
  have ik : (k : Int) < (kn : Int) := by omega
  obtain ⟨kg, kf, rfl, hkg, hkc⟩ := hG.kh.some (by omega)
  have c1 := cellR hkh hkc hkl
  have hrow := hG.row k (by omega)
  have hrl := hrow.len
  have hn3 := hG.n3 k (by omega)
  have hn4 := hG.n4 k (by omega)
  have hn5 := hG.n5 k (by omega)
  have hra : rowAt gr ((k : Int), g) = nth [] gr.ks k := by rw [rowAt]; show nth [] gr.ks ((k : Int)).toNat = _; rw [Int.toNat_natCast]
  have hrb : reachB gr ((j : Int), x2) ((k : Int), g) = nth false (below (kof gr.ks) kn j) k := by
    show nth false (below (kof gr.ks) gr.ks.length ((j : Int)).toNat) ((k : Int)).toNat = _
    rw [Int.toNat_natCast, Int.toNat_natCast, hlen]
  have hue : linkErr gr ((k : Int), g) ((j : Int), x2) pos = if 0 ≤ pos ∧ pos ≤ ((nth dRH hs k).n : Int) then (if 16 ≤ (nth dRH hs k).n then 9 else if nth false (below (kof gr.ks) kn j) k = true then 60 else 0) else 2 := by rw [linkErr, he, if_pos rfl, hra, hrl, hrb]
  by_cases hp0 : pos < 0
  · rw [if_neg (by omega)] at hue
    rw [hue, show linkRes gr ((k : Int), g) ((j : Int), x2) pos = zeroG by rw [linkRes, hue]; rfl]
    go_enter Try.func21, Try.ntmps21
    go_wp2_with (go_at_call 52; refine (plus_post (asked_is he (hG.ex (by with_reducible repeat (first | exact ex_refl _ | exact ex_more | apply ex_alloc | apply ex_plus | apply ex_drew | apply ex_drewN))))).mono ?_; rintro e w' ⟨rfl, nx, rfl⟩)
    exact bodyPost_ret (v := .tuple #[.agg #[.slice none 0 0, .slice none 0 0], .int .i64 2]) (by simp [results, Try.results21, go_sem, ↓IntWalk.iteOmega]) rfl ⟨none, 0, none, 0, [], rfl, (by with_reducible repeat (first | exact ex_refl _ | exact ex_more | apply ex_alloc | apply ex_plus | apply ex_drew | apply ex_drewN)), own_zero⟩
  have dp0 := decide_eq_false hp0
  obtain ⟨p, rfl⟩ : ∃ p : Nat, pos = (p : Int) := ⟨pos.toNat, by omega⟩
  by_cases hp1 : (nth dRH hs k).n < p
  · have ip1 : ((nth dRH hs k).n : Int) < (p : Int) := by omega
    rw [if_neg (by omega)] at hue
    rw [hue, show linkRes gr ((k : Int), g) ((j : Int), x2) p = zeroG by rw [linkRes, hue]; rfl]
    go_enter Try.func21, Try.ntmps21
    go_wp2_with (go_at_call 52; refine (plus_post (asked_is he (hG.ex (by with_reducible repeat (first | exact ex_refl _ | exact ex_more | apply ex_alloc | apply ex_plus | apply ex_drew | apply ex_drewN))))).mono ?_; rintro e w' ⟨rfl, nx, rfl⟩)
    exact bodyPost_ret (v := .tuple #[.agg #[.slice none 0 0, .slice none 0 0], .int .i64 2]) (by simp [results, Try.results21, go_sem, ↓IntWalk.iteOmega]) rfl ⟨none, 0, none, 0, [], rfl, (by with_reducible repeat (first | exact ex_refl _ | exact ex_more | apply ex_alloc | apply ex_plus | apply ex_drew | apply ex_drewN)), own_zero⟩
  have ip1 : ¬ ((nth dRH hs k).n : Int) < (p : Int) := by omega
  have dp1 := decide_eq_false ip1
  rw [if_pos (by omega)] at hue
  by_cases h16 : 16 ≤ (nth dRH hs k).n
  · have i16 : (16 : Int) ≤ ((nth dRH hs k).n : Int) := by omega
    rw [if_pos h16] at hue
    rw [hue, show linkRes gr ((k : Int), g) ((j : Int), x2) p = zeroG by rw [linkRes, hue]; rfl]
    go_enter Try.func21, Try.ntmps21
    go_wp2_with (go_at_call 52; refine (plus_post (asked_is he (hG.ex (by with_reducible repeat (first | exact ex_refl _ | exact ex_more | apply ex_alloc | apply ex_plus | apply ex_drew | apply ex_drewN))))).mono ?_; rintro e w' ⟨rfl, nx, rfl⟩)
    exact bodyPost_ret (v := .tuple #[.agg #[.slice none 0 0, .slice none 0 0], .int .i64 9]) (by simp [results, Try.results21, go_sem, ↓IntWalk.iteOmega]) rfl ⟨none, 0, none, 0, [], rfl, (by with_reducible repeat (first | exact ex_refl _ | exact ex_more | apply ex_alloc | apply ex_plus | apply ex_drew | apply ex_drewN)), own_zero⟩
  have i16 : ¬ (16 : Int) ≤ ((nth dRH hs k).n : Int) := by omega
  have d16 := decide_eq_false i16
  rw [if_neg h16] at hue
  cases hB : nth false (below (kof gr.ks) kn j) k
  rotate_left
  · rw [hB, if_pos rfl] at hue
    rw [hue, show linkRes gr ((k : Int), g) ((j : Int), x2) p = zeroG by rw [linkRes, hue]; rfl]
    go_enter Try.func21, Try.ntmps21
    go_wp2_with (first | (go_at_call 52; refine (plus_post (asked_is he (hG.ex (by with_reducible repeat (first | exact ex_refl _ | exact ex_more | apply ex_alloc | apply ex_plus | apply ex_drew | apply ex_drewN))))).mono ?_; rintro e w' ⟨rfl, nx, rfl⟩) | (go_at_call 55; refine (below_calls _ _ _ _ _ _ hs gr _ _ (hG.ex (by with_reducible repeat (first | exact ex_refl _ | exact ex_more | apply ex_alloc | apply ex_plus | apply ex_drew | apply ex_drewN))) (kin6_of h2 h3) hjl).mono ?_; rintro e wB ⟨b, bc, rfl, hwB, ob⟩; have q0 : wB.cell? ⟨w.heap.size, 0, none⟩ = some (.slice ao n cap) := cell_ex hwB (by simp [go_sem, ↓IntWalk.iteOmega]); have q1 : wB.cell? ⟨w.heap.size, 1, none⟩ = some (.slice (some ⟨kg, kf, none⟩) kn kcap) := cell_ex hwB (by simp [go_sem, ↓IntWalk.iteOmega]); have q2 : wB.cell? ⟨w.heap.size + 1, 0, none⟩ = some (.int .i64 k) := cell_ex hwB (by simp [go_sem, ↓IntWalk.iteOmega]); have q5 : wB.heap[w.heap.size + 1 + 1 + 1]? = some (.cells #[.slice none 0 0, .slice none 0 0] 27) := blk_ex (w := (((w.alloc (.cells #[.slice ao n cap, .slice (some ⟨kg, kf, none⟩) kn kcap] 27)).alloc (.cells #[.int .i64 k, .int .i64 g] 29)).alloc (.cells #[.int .i64 j, .int .i64 x2] 29)).alloc (.cells #[.slice none 0 0, .slice none 0 0] 27)) (by with_reducible repeat (first | exact ex_refl _ | exact ex_more | apply ex_alloc | apply ex_plus | apply ex_drew | apply ex_drewN | (apply ex_on; assumption))) (by rw [blk_alloc, if_pos (by simp)]); have q6 := cell_blk (i := 0) q5 rfl; have q7 := cell_blk (i := 1) q5 rfl; have q8 := frozen_blk (i := 0) q5; have q9 := frozen_blk (i := 1) q5; have lq := blk_lt q5; obtain ⟨m0, m1, m2', m3⟩ := ob.markAt hkl; rw [hB] at m0))
    have br9 := blk_set_eq (i := 1) (u := .slice none 0 0) (blk_set_eq (i := 0) (u := .slice none 0 0) q5)
    have hx9 := ex_set_new (i := 1) (u := .slice none 0 0) (g := w.heap.size + 1 + 1 + 1) (ex_set_new (i := 0) (u := .slice none 0 0) (g := w.heap.size + 1 + 1 + 1) (show ∃ y, wB = plus w y from (by with_reducible repeat (first | exact ex_refl _ | exact ex_more | apply ex_alloc | apply ex_plus | apply ex_drew | apply ex_drewN | (apply ex_on; assumption)))) (by omega)) (by omega)
    generalize (wB.setCell ⟨w.heap.size + 1 + 1 + 1, 0, none⟩ (.slice none 0 0)).setCell ⟨w.heap.size + 1 + 1 + 1, 1, none⟩ (.slice none 0 0) = w9 at *
    have f0 := cell_blk (i := 0) br9 rfl
    have f1 := cell_blk (i := 1) br9 rfl
    exact bodyPost_ret (v := .tuple #[.agg #[.slice none 0 0, .slice none 0 0], .int .i64 60]) (by simp [results, Try.results21, go_sem, f0, f1]) rfl ⟨none, 0, none, 0, [], rfl, hx9, own_zero⟩
  rw [hB, if_neg (by decide)] at hue
  have hres : linkRes gr ((k : Int), g) ((j : Int), x2) p = ⟨gr.sl, gr.ks.set k (put (nth [] gr.ks k) p ((j : Int), x2))⟩ := by
    rw [linkRes, hue, if_pos rfl, linkG, hra]
    show Gr.mk gr.sl (gr.ks.set ((k : Int)).toNat (put (nth [] gr.ks k) ((p : Int)).toNat ((j : Int), x2))) = _
    rw [Int.toNat_natCast, Int.toNat_natCast]
  rw [hue, hres]
  go_enter Try.func21, Try.ntmps21
  go_upto_region 13 with (first | (go_at_call 52; refine (plus_post (asked_is he (hG.ex (by with_reducible repeat (first | exact ex_refl _ | exact ex_more | apply ex_alloc | apply ex_plus | apply ex_drew | apply ex_drewN))))).mono ?_; rintro e w' ⟨rfl, nx, rfl⟩) | (go_at_call 55; refine (below_calls _ _ _ _ _ _ hs gr _ _ (hG.ex (by with_reducible repeat (first | exact ex_refl _ | exact ex_more | apply ex_alloc | apply ex_plus | apply ex_drew | apply ex_drewN))) (kin6_of h2 h3) hjl).mono ?_; rintro e wB ⟨b, bc, rfl, hwB, ob⟩; have q0 : wB.cell? ⟨w.heap.size, 0, none⟩ = some (.slice ao n cap) := cell_ex hwB (by simp [go_sem, ↓IntWalk.iteOmega]); have q1 : wB.cell? ⟨w.heap.size, 1, none⟩ = some (.slice (some ⟨kg, kf, none⟩) kn kcap) := cell_ex hwB (by simp [go_sem, ↓IntWalk.iteOmega]); have q2 : wB.cell? ⟨w.heap.size + 1, 0, none⟩ = some (.int .i64 k) := cell_ex hwB (by simp [go_sem, ↓IntWalk.iteOmega]); have q5 : wB.heap[w.heap.size + 1 + 1 + 1]? = some (.cells #[.slice none 0 0, .slice none 0 0] 27) := blk_ex (w := (((w.alloc (.cells #[.slice ao n cap, .slice (some ⟨kg, kf, none⟩) kn kcap] 27)).alloc (.cells #[.int .i64 k, .int .i64 g] 29)).alloc (.cells #[.int .i64 j, .int .i64 x2] 29)).alloc (.cells #[.slice none 0 0, .slice none 0 0] 27)) (by with_reducible repeat (first | exact ex_refl _ | exact ex_more | apply ex_alloc | apply ex_plus | apply ex_drew | apply ex_drewN | (apply ex_on; assumption))) (by rw [blk_alloc, if_pos (by simp)]); have q6 := cell_blk (i := 0) q5 rfl; have q7 := cell_blk (i := 1) q5 rfl; have q8 := frozen_blk (i := 0) q5; have q9 := frozen_blk (i := 1) q5; have lq := blk_lt q5; obtain ⟨m0, m1, m2', m3⟩ := ob.markAt hkl; rw [hB] at m0) | (go_at_call 17; refine (gtwin_calls _ _ _ _ _ _ hs gr _ (hG.ex (by with_reducible repeat (first | exact ex_refl _ | exact ex_more | apply ex_alloc | apply ex_plus | apply ex_drew | apply ex_drewN | (apply ex_on; assumption))))).mono ?_; rintro e w1 ⟨a1, c1', ka, kc, hs1, rfl, hw1, og⟩))
  have hzB := size_ex hwB
  have og2 := (og.ex (ex_alloc (o := (.cells #[.slice a1 n c1', .slice ka kn kc] 27)) (ex_refl w1))).base (T' := w) (by simp [go_sem] at hzB; omega)
  have hx2 : ∃ y, w1.alloc (.cells #[.slice a1 n c1', .slice ka kn kc] 27) = plus w y := (by with_reducible repeat (first | exact ex_refl _ | exact ex_more | apply ex_alloc | apply ex_plus | apply ex_drew | apply ex_drewN | (apply ex_on; assumption)))
  have bv : (w1.alloc (.cells #[.slice a1 n c1', .slice ka kn kc] 27)).heap[w1.heap.size]? = some (.cells #[.slice a1 n c1', .slice ka kn kc] 27) := by rw [blk_alloc, if_pos rfl]
  have bh : (w1.alloc (.cells #[.slice a1 n c1', .slice ka kn kc] 27)).heap[w.heap.size + 1]? = some (.cells #[.int .i64 k, .int .i64 g] 29) := blk_ex (w := ((w.alloc (.cells #[.slice ao n cap, .slice (some ⟨kg, kf, none⟩) kn kcap] 27)).alloc (.cells #[.int .i64 k, .int .i64 g] 29))) (by with_reducible repeat (first | exact ex_refl _ | exact ex_more | apply ex_alloc | apply ex_plus | apply ex_drew | apply ex_drewN | (apply ex_on; assumption))) (by rw [blk_alloc, if_pos (by simp)])
  have bc2 : (w1.alloc (.cells #[.slice a1 n c1', .slice ka kn kc] 27)).heap[w.heap.size + 1 + 1]? = some (.cells #[.int .i64 j, .int .i64 x2] 29) := blk_ex (w := ((w.alloc (.cells #[.slice ao n cap, .slice (some ⟨kg, kf, none⟩) kn kcap] 27)).alloc (.cells #[.int .i64 k, .int .i64 g] 29)).alloc (.cells #[.int .i64 j, .int .i64 x2] 29)) (by with_reducible repeat (first | exact ex_refl _ | exact ex_more | apply ex_alloc | apply ex_plus | apply ex_drew | apply ex_drewN | (apply ex_on; assumption))) (by rw [blk_alloc, if_pos (by simp)])
  have br : (w1.alloc (.cells #[.slice a1 n c1', .slice ka kn kc] 27)).heap[w.heap.size + 1 + 1 + 1]? = some (.cells #[.slice none 0 0, .slice none 0 0] 27) := blk_ex (ex_alloc (o := (.cells #[.slice a1 n c1', .slice ka kn kc] 27)) (ex_refl w1)) (blk_ex hw1 q5)
  clear og q0 q1 q2 q5 q6 q7 q8 q9 m0 m1 m2' m3 ob
  have lv := blk_lt bv
  generalize w1.alloc (.cells #[.slice a1 n c1', .slice ka kn kc] 27) = w2 at *
  obtain ⟨kb, kcur, rfl, hkb, hkbb, _⟩ := og2.kh.blk (by omega)
  have v0 := cell_blk (i := 0) bv rfl
  have v1 := cell_blk (i := 1) bv rfl
  have h0 := cell_blk (i := 0) bh rfl
  have lh := blk_lt bh
  have lr := blk_lt br
  have y0 := cell_blk (i := 0) bc2 rfl
  have y1 := cell_blk (i := 1) bc2 rfl
  have lc := blk_lt bc2
  have hrowW := hrow.ex hx2
  by_cases hn0 : (nth dRH hs k).n = 0
  · obtain rfl : p = 0 := by omega
    cases hrA : (nth dRH hs k).ao with
    | none =>
      obtain ⟨_, hcp0⟩ := hn5 hrA
      have hT1 : Lay f2 w2 none 0 ((nth [] gr.ks k).take 0) := ⟨by simp, .inl rfl⟩
      have hT2 : Lay f2 w2 none 0 ((nth [] gr.ks k).drop 0) := ⟨by rw [List.length_drop, hrl]; omega, .inl rfl⟩
      clear hn5 hn4 hn3
      go_upto_region 15 with (at_builtin; refine wpList_append_lay (T := w2) (l := []) rfl _ _ rfl kinH f2_c f2_1 rfl (by with_reducible repeat (first | exact ex_refl _ | exact ex_more | apply ex_alloc | apply ex_plus | apply ex_drew | apply ex_drewN)) own_nil rfl hT1 (by omega) (by decide) ?_; intro na nc y1' hown1; rw [Nat.zero_add, List.nil_append] at hown1)
      go_upto_region 16 with (at_builtin; refine wpList_append_lay (T := w2) rfl _ _ rfl kinH f2_c f2_1 rfl (by with_reducible repeat (first | exact ex_refl _ | exact ex_more | apply ex_alloc | apply ex_plus | apply ex_drew | apply ex_drewN)) (hown1.ex (by with_reducible repeat (first | exact ex_refl _ | exact ex_more | apply ex_alloc | apply ex_plus | apply ex_drew | apply ex_drewN))) rfl (l2 := [((j : Int), x2)]) ⟨rfl, .inr ⟨_, 0, rfl, by (simp [go_sem]; try omega), fun jj u hu => by match jj, hu with | 0, hu => (simp [f2] at hu; subst hu; simp [go_sem, ↓IntWalk.iteOmega]) | 1, hu => (simp [f2] at hu; subst hu; simp [go_sem, ↓IntWalk.iteOmega]) | jj + 2, hu => simp [f2] at hu⟩⟩ (by omega) (by decide) ?_; intro nb1 nd1 y3 hown3)
      go_upto_region 17 with (at_builtin; refine wpList_append_lay (T := w2) rfl _ _ rfl kinH f2_c f2_1 rfl (by with_reducible repeat (first | exact ex_refl _ | exact ex_more | apply ex_alloc | apply ex_plus | apply ex_drew | apply ex_drewN)) (hown3.ex (by with_reducible repeat (first | exact ex_refl _ | exact ex_more | apply ex_alloc | apply ex_plus | apply ex_drew | apply ex_drewN))) rfl (hT2.ex (by with_reducible repeat (first | exact ex_refl _ | exact ex_more | apply ex_alloc | apply ex_plus | apply ex_drew | apply ex_drewN))) (by omega) (by decide) ?_; intro nb nd y2 hown2; rw [List.append_assoc] at hown2)
      refine name_world (fun w' => (∃ y, w' = plus w y) ∧ GrOwn w w' a1 n c1' (some ⟨kb, 0, none⟩) kn kc hs1 gr ∧ w'.heap[w1.heap.size]? = some (.cells #[.slice a1 n c1', .slice (some ⟨kb, 0, none⟩) kn kc] 27) ∧ w'.heap[w.heap.size + 1]? = some (.cells #[.int .i64 k, .int .i64 g] 29) ∧ w'.heap[w.heap.size + 1 + 1 + 1]? = some (.cells #[.slice none 0 0, .slice none 0 0] 27) ∧ Own 29 2 f2 w w' nb (1) nd (put (nth [] gr.ks k) 0 ((j : Int), x2))) ⟨ex_on (by with_reducible repeat (first | exact ex_refl _ | exact ex_more | apply ex_alloc | apply ex_plus | apply ex_drew | apply ex_drewN)) hx2, og2.ex (by with_reducible repeat (first | exact ex_refl _ | exact ex_more | apply ex_alloc | apply ex_plus | apply ex_drew | apply ex_drewN)), blk_ex (by with_reducible repeat (first | exact ex_refl _ | exact ex_more | apply ex_alloc | apply ex_plus | apply ex_drew | apply ex_drewN)) bv, blk_ex (by with_reducible repeat (first | exact ex_refl _ | exact ex_more | apply ex_alloc | apply ex_plus | apply ex_drew | apply ex_drewN)) bh, blk_ex (by with_reducible repeat (first | exact ex_refl _ | exact ex_more | apply ex_alloc | apply ex_plus | apply ex_drew | apply ex_drewN)) br, hown2.base (size_ex hx2)⟩ ?_
      rintro w6 ⟨hx6, og6, bv6, bh6, br6, on6⟩
      clear og2 bv bh br v0 v1 h0 hown1 hown2 hown3 hkbb lh lr lv
      obtain ⟨_, kcur6, e0, _, hkb6, _⟩ := og6.kh.blk (by omega)
      cases e0
      have v1 := cell_blk (i := 1) bv6 rfl
      have v0 := cell_blk (i := 0) bv6 rfl
      have h0 := cell_blk (i := 0) bh6 rfl
      obtain ⟨_, _, e0, lkb, hkc6⟩ := og6.kh.lay.some (by omega)
      cases e0
      have q0 := cellR og6.kh.1 hkc6 hkl
      rw [Nat.zero_add] at q0
      have z0 := frozen_blk (i := k) hkb6
      have og7 := og6.setRow (k := k) (r := ⟨nb, 1, nd⟩) hkl on6
      have nv : kb ≠ w1.heap.size := by
        intro e0
        rw [e0, bv6] at hkb6
        cases hkb6
      have nr : kb ≠ w.heap.size + 1 + 1 + 1 := by
        intro e0
        rw [e0, br6] at hkb6
        cases hkb6
      have bv7 : (w6.setCell ⟨kb, k, none⟩ (.slice nb (1) nd)).heap[w1.heap.size]? = _ := (blk_set_ne nv).trans bv6
      have br7 : (w6.setCell ⟨kb, k, none⟩ (.slice nb (1) nd)).heap[w.heap.size + 1 + 1 + 1]? = _ := (blk_set_ne nr).trans br6
      have hx7 : ∃ y, w6.setCell ⟨kb, k, none⟩ (.slice nb (1) nd) = plus w y := ex_set_new hx6 hkb
      go_upto_region 18 with fail
      refine name_world (fun w' => w' = w6.setCell ⟨kb, k, none⟩ (.slice nb (1) nd)) rfl ?_
      rintro w7 e7
      rw [← e7] at og7 bv7 br7 hx7
      clear e7 og6 bv6 bh6 br6 on6 hkb6 v0 v1 h0 q0 z0 hkc6
      have v0 := cell_blk (i := 0) bv7 rfl
      have v1 := cell_blk (i := 1) bv7 rfl
      have r0 := cell_blk (i := 0) br7 rfl
      have r1 := cell_blk (i := 1) br7 rfl
      have y0 := frozen_blk (i := 0) br7
      have y1 := frozen_blk (i := 1) br7
      have og8 := (og7.set_other (i := 0) (u := .slice a1 n c1') br7 (by decide) (by decide) (by decide)).set_other (i := 1) (u := .slice (some ⟨kb, 0, none⟩) kn kc) (blk_set_eq br7) (by decide) (by decide) (by decide)
      have br8 := blk_set_eq (i := 1) (u := .slice (some ⟨kb, 0, none⟩) kn kc) (blk_set_eq (i := 0) (u := .slice a1 n c1') br7)
      have hx8 := ex_set_new (i := 1) (u := .slice (some ⟨kb, 0, none⟩) kn kc) (g := w.heap.size + 1 + 1 + 1) (ex_set_new (i := 0) (u := .slice a1 n c1') (g := w.heap.size + 1 + 1 + 1) hx7 (by omega)) (by omega)
      go_wp2
      generalize (w7.setCell ⟨w.heap.size + 1 + 1 + 1, 0, none⟩ (.slice a1 n c1')).setCell ⟨w.heap.size + 1 + 1 + 1, 1, none⟩ (.slice (some ⟨kb, 0, none⟩) kn kc) = w9 at *
      have f0 := cell_blk (i := 0) br8 rfl
      have f1 := cell_blk (i := 1) br8 rfl
      have hpost : RetG w ⟨gr.sl, gr.ks.set k (put (nth [] gr.ks k) 0 ((j : Int), x2))⟩ 0 (.returned (.tuple #[.agg #[.slice a1 n c1', .slice (some ⟨kb, 0, none⟩) kn kc], .int .i64 0])) w9 := by
        have e2 : (Gr.mk gr.sl (gr.ks.set k (put (nth [] gr.ks k) 0 ((j : Int), x2)))).ks.length = kn := by show (gr.ks.set k _).length = kn; rw [List.length_set]; exact hlen
        have e1 : (Gr.mk gr.sl (gr.ks.set k (put (nth [] gr.ks k) 0 ((j : Int), x2)))).sl.length = n := hsl
        refine ⟨a1, c1', some ⟨kb, 0, none⟩, kc, hs1.set k ⟨nb, 1, nd⟩, ?_, hx8, ?_⟩
        · rw [e1, e2]
        · rw [e1, e2]; exact og8
      exact bodyPost_ret (v := .tuple #[.agg #[.slice a1 n c1', .slice (some ⟨kb, 0, none⟩) kn kc], .int .i64 0]) (by simp [results, Try.results21, go_sem, f0, f1]) rfl hpost
    | some a =>
      clear hn5
      have hT1 : Lay f2 w2 (some a) 0 ((nth [] gr.ks k).take 0) := ⟨by simp, .inl rfl⟩
      have hT2 : ∀ b, Lay f2 w2 b 0 ((nth [] gr.ks k).drop 0) := fun b => ⟨by rw [List.length_drop, hrl]; omega, .inl rfl⟩
      go_upto_region 15 with (at_builtin; refine wpList_append_lay (T := w2) (l := []) rfl _ _ rfl kinH f2_c f2_1 rfl (by with_reducible repeat (first | exact ex_refl _ | exact ex_more | apply ex_alloc | apply ex_plus | apply ex_drew | apply ex_drewN)) own_nil rfl hT1 (by omega) (by decide) ?_; intro na nc y1' hown1; rw [Nat.zero_add, List.nil_append] at hown1)
      go_upto_region 16 with (at_builtin; refine wpList_append_lay (T := w2) rfl _ _ rfl kinH f2_c f2_1 rfl (by with_reducible repeat (first | exact ex_refl _ | exact ex_more | apply ex_alloc | apply ex_plus | apply ex_drew | apply ex_drewN)) (hown1.ex (by with_reducible repeat (first | exact ex_refl _ | exact ex_more | apply ex_alloc | apply ex_plus | apply ex_drew | apply ex_drewN))) rfl (l2 := [((j : Int), x2)]) ⟨rfl, .inr ⟨_, 0, rfl, by (simp [go_sem]; try omega), fun jj u hu => by match jj, hu with | 0, hu => (simp [f2] at hu; subst hu; simp [go_sem, ↓IntWalk.iteOmega]) | 1, hu => (simp [f2] at hu; subst hu; simp [go_sem, ↓IntWalk.iteOmega]) | jj + 2, hu => simp [f2] at hu⟩⟩ (by omega) (by decide) ?_; intro nb1 nd1 y3 hown3)
      by_cases hcp : (nth dRH hs k).cap = 0
      · skip
        go_upto_region 17 with (at_builtin; refine wpList_append_lay (T := w2) rfl _ _ rfl kinH f2_c f2_1 rfl (by with_reducible repeat (first | exact ex_refl _ | exact ex_more | apply ex_alloc | apply ex_plus | apply ex_drew | apply ex_drewN)) (hown3.ex (by with_reducible repeat (first | exact ex_refl _ | exact ex_more | apply ex_alloc | apply ex_plus | apply ex_drew | apply ex_drewN))) rfl ((hT2 _).ex (by with_reducible repeat (first | exact ex_refl _ | exact ex_more | apply ex_alloc | apply ex_plus | apply ex_drew | apply ex_drewN))) (by omega) (by decide) ?_; intro nb nd y2 hown2; rw [List.append_assoc] at hown2)
        refine name_world (fun w' => (∃ y, w' = plus w y) ∧ GrOwn w w' a1 n c1' (some ⟨kb, 0, none⟩) kn kc hs1 gr ∧ w'.heap[w1.heap.size]? = some (.cells #[.slice a1 n c1', .slice (some ⟨kb, 0, none⟩) kn kc] 27) ∧ w'.heap[w.heap.size + 1]? = some (.cells #[.int .i64 k, .int .i64 g] 29) ∧ w'.heap[w.heap.size + 1 + 1 + 1]? = some (.cells #[.slice none 0 0, .slice none 0 0] 27) ∧ Own 29 2 f2 w w' nb (1) nd (put (nth [] gr.ks k) 0 ((j : Int), x2))) ⟨ex_on (by with_reducible repeat (first | exact ex_refl _ | exact ex_more | apply ex_alloc | apply ex_plus | apply ex_drew | apply ex_drewN)) hx2, og2.ex (by with_reducible repeat (first | exact ex_refl _ | exact ex_more | apply ex_alloc | apply ex_plus | apply ex_drew | apply ex_drewN)), blk_ex (by with_reducible repeat (first | exact ex_refl _ | exact ex_more | apply ex_alloc | apply ex_plus | apply ex_drew | apply ex_drewN)) bv, blk_ex (by with_reducible repeat (first | exact ex_refl _ | exact ex_more | apply ex_alloc | apply ex_plus | apply ex_drew | apply ex_drewN)) bh, blk_ex (by with_reducible repeat (first | exact ex_refl _ | exact ex_more | apply ex_alloc | apply ex_plus | apply ex_drew | apply ex_drewN)) br, hown2.base (size_ex hx2)⟩ ?_
        rintro w6 ⟨hx6, og6, bv6, bh6, br6, on6⟩
        clear og2 bv bh br v0 v1 h0 hown1 hown2 hown3 hkbb lh lr lv
        obtain ⟨_, kcur6, e0, _, hkb6, _⟩ := og6.kh.blk (by omega)
        cases e0
        have v1 := cell_blk (i := 1) bv6 rfl
        have v0 := cell_blk (i := 0) bv6 rfl
        have h0 := cell_blk (i := 0) bh6 rfl
        obtain ⟨_, _, e0, lkb, hkc6⟩ := og6.kh.lay.some (by omega)
        cases e0
        have q0 := cellR og6.kh.1 hkc6 hkl
        rw [Nat.zero_add] at q0
        have z0 := frozen_blk (i := k) hkb6
        have og7 := og6.setRow (k := k) (r := ⟨nb, 1, nd⟩) hkl on6
        have nv : kb ≠ w1.heap.size := by
          intro e0
          rw [e0, bv6] at hkb6
          cases hkb6
        have nr : kb ≠ w.heap.size + 1 + 1 + 1 := by
          intro e0
          rw [e0, br6] at hkb6
          cases hkb6
        have bv7 : (w6.setCell ⟨kb, k, none⟩ (.slice nb (1) nd)).heap[w1.heap.size]? = _ := (blk_set_ne nv).trans bv6
        have br7 : (w6.setCell ⟨kb, k, none⟩ (.slice nb (1) nd)).heap[w.heap.size + 1 + 1 + 1]? = _ := (blk_set_ne nr).trans br6
        have hx7 : ∃ y, w6.setCell ⟨kb, k, none⟩ (.slice nb (1) nd) = plus w y := ex_set_new hx6 hkb
        go_upto_region 18 with fail
        refine name_world (fun w' => w' = w6.setCell ⟨kb, k, none⟩ (.slice nb (1) nd)) rfl ?_
        rintro w7 e7
        rw [← e7] at og7 bv7 br7 hx7
        clear e7 og6 bv6 bh6 br6 on6 hkb6 v0 v1 h0 q0 z0 hkc6
        have v0 := cell_blk (i := 0) bv7 rfl
        have v1 := cell_blk (i := 1) bv7 rfl
        have r0 := cell_blk (i := 0) br7 rfl
        have r1 := cell_blk (i := 1) br7 rfl
        have y0 := frozen_blk (i := 0) br7
        have y1 := frozen_blk (i := 1) br7
        have og8 := (og7.set_other (i := 0) (u := .slice a1 n c1') br7 (by decide) (by decide) (by decide)).set_other (i := 1) (u := .slice (some ⟨kb, 0, none⟩) kn kc) (blk_set_eq br7) (by decide) (by decide) (by decide)
        have br8 := blk_set_eq (i := 1) (u := .slice (some ⟨kb, 0, none⟩) kn kc) (blk_set_eq (i := 0) (u := .slice a1 n c1') br7)
        have hx8 := ex_set_new (i := 1) (u := .slice (some ⟨kb, 0, none⟩) kn kc) (g := w.heap.size + 1 + 1 + 1) (ex_set_new (i := 0) (u := .slice a1 n c1') (g := w.heap.size + 1 + 1 + 1) hx7 (by omega)) (by omega)
        go_wp2
        generalize (w7.setCell ⟨w.heap.size + 1 + 1 + 1, 0, none⟩ (.slice a1 n c1')).setCell ⟨w.heap.size + 1 + 1 + 1, 1, none⟩ (.slice (some ⟨kb, 0, none⟩) kn kc) = w9 at *
        have f0 := cell_blk (i := 0) br8 rfl
        have f1 := cell_blk (i := 1) br8 rfl
        have hpost : RetG w ⟨gr.sl, gr.ks.set k (put (nth [] gr.ks k) 0 ((j : Int), x2))⟩ 0 (.returned (.tuple #[.agg #[.slice a1 n c1', .slice (some ⟨kb, 0, none⟩) kn kc], .int .i64 0])) w9 := by
          have e2 : (Gr.mk gr.sl (gr.ks.set k (put (nth [] gr.ks k) 0 ((j : Int), x2)))).ks.length = kn := by show (gr.ks.set k _).length = kn; rw [List.length_set]; exact hlen
          have e1 : (Gr.mk gr.sl (gr.ks.set k (put (nth [] gr.ks k) 0 ((j : Int), x2)))).sl.length = n := hsl
          refine ⟨a1, c1', some ⟨kb, 0, none⟩, kc, hs1.set k ⟨nb, 1, nd⟩, ?_, hx8, ?_⟩
          · rw [e1, e2]
          · rw [e1, e2]; exact og8
        exact bodyPost_ret (v := .tuple #[.agg #[.slice a1 n c1', .slice (some ⟨kb, 0, none⟩) kn kc], .int .i64 0]) (by simp [results, Try.results21, go_sem, f0, f1]) rfl hpost
      · skip
        go_upto_region 17 with (at_builtin; refine wpList_append_lay (T := w2) rfl _ _ rfl kinH f2_c f2_1 rfl (by with_reducible repeat (first | exact ex_refl _ | exact ex_more | apply ex_alloc | apply ex_plus | apply ex_drew | apply ex_drewN)) (hown3.ex (by with_reducible repeat (first | exact ex_refl _ | exact ex_more | apply ex_alloc | apply ex_plus | apply ex_drew | apply ex_drewN))) rfl ((hT2 _).ex (by with_reducible repeat (first | exact ex_refl _ | exact ex_more | apply ex_alloc | apply ex_plus | apply ex_drew | apply ex_drewN))) (by omega) (by decide) ?_; intro nb nd y2 hown2; rw [List.append_assoc] at hown2)
        refine name_world (fun w' => (∃ y, w' = plus w y) ∧ GrOwn w w' a1 n c1' (some ⟨kb, 0, none⟩) kn kc hs1 gr ∧ w'.heap[w1.heap.size]? = some (.cells #[.slice a1 n c1', .slice (some ⟨kb, 0, none⟩) kn kc] 27) ∧ w'.heap[w.heap.size + 1]? = some (.cells #[.int .i64 k, .int .i64 g] 29) ∧ w'.heap[w.heap.size + 1 + 1 + 1]? = some (.cells #[.slice none 0 0, .slice none 0 0] 27) ∧ Own 29 2 f2 w w' nb (1) nd (put (nth [] gr.ks k) 0 ((j : Int), x2))) ⟨ex_on (by with_reducible repeat (first | exact ex_refl _ | exact ex_more | apply ex_alloc | apply ex_plus | apply ex_drew | apply ex_drewN)) hx2, og2.ex (by with_reducible repeat (first | exact ex_refl _ | exact ex_more | apply ex_alloc | apply ex_plus | apply ex_drew | apply ex_drewN)), blk_ex (by with_reducible repeat (first | exact ex_refl _ | exact ex_more | apply ex_alloc | apply ex_plus | apply ex_drew | apply ex_drewN)) bv, blk_ex (by with_reducible repeat (first | exact ex_refl _ | exact ex_more | apply ex_alloc | apply ex_plus | apply ex_drew | apply ex_drewN)) bh, blk_ex (by with_reducible repeat (first | exact ex_refl _ | exact ex_more | apply ex_alloc | apply ex_plus | apply ex_drew | apply ex_drewN)) br, hown2.base (size_ex hx2)⟩ ?_
        rintro w6 ⟨hx6, og6, bv6, bh6, br6, on6⟩
        clear og2 bv bh br v0 v1 h0 hown1 hown2 hown3 hkbb lh lr lv
        obtain ⟨_, kcur6, e0, _, hkb6, _⟩ := og6.kh.blk (by omega)
        cases e0
        have v1 := cell_blk (i := 1) bv6 rfl
        have v0 := cell_blk (i := 0) bv6 rfl
        have h0 := cell_blk (i := 0) bh6 rfl
        obtain ⟨_, _, e0, lkb, hkc6⟩ := og6.kh.lay.some (by omega)
        cases e0
        have q0 := cellR og6.kh.1 hkc6 hkl
        rw [Nat.zero_add] at q0
        have z0 := frozen_blk (i := k) hkb6
        have og7 := og6.setRow (k := k) (r := ⟨nb, 1, nd⟩) hkl on6
        have nv : kb ≠ w1.heap.size := by
          intro e0
          rw [e0, bv6] at hkb6
          cases hkb6
        have nr : kb ≠ w.heap.size + 1 + 1 + 1 := by
          intro e0
          rw [e0, br6] at hkb6
          cases hkb6
        have bv7 : (w6.setCell ⟨kb, k, none⟩ (.slice nb (1) nd)).heap[w1.heap.size]? = _ := (blk_set_ne nv).trans bv6
        have br7 : (w6.setCell ⟨kb, k, none⟩ (.slice nb (1) nd)).heap[w.heap.size + 1 + 1 + 1]? = _ := (blk_set_ne nr).trans br6
        have hx7 : ∃ y, w6.setCell ⟨kb, k, none⟩ (.slice nb (1) nd) = plus w y := ex_set_new hx6 hkb
        go_upto_region 18 with fail
        refine name_world (fun w' => w' = w6.setCell ⟨kb, k, none⟩ (.slice nb (1) nd)) rfl ?_
        rintro w7 e7
        rw [← e7] at og7 bv7 br7 hx7
        clear e7 og6 bv6 bh6 br6 on6 hkb6 v0 v1 h0 q0 z0 hkc6
        have v0 := cell_blk (i := 0) bv7 rfl
        have v1 := cell_blk (i := 1) bv7 rfl
        have r0 := cell_blk (i := 0) br7 rfl
        have r1 := cell_blk (i := 1) br7 rfl
        have y0 := frozen_blk (i := 0) br7
        have y1 := frozen_blk (i := 1) br7
        have og8 := (og7.set_other (i := 0) (u := .slice a1 n c1') br7 (by decide) (by decide) (by decide)).set_other (i := 1) (u := .slice (some ⟨kb, 0, none⟩) kn kc) (blk_set_eq br7) (by decide) (by decide) (by decide)
        have br8 := blk_set_eq (i := 1) (u := .slice (some ⟨kb, 0, none⟩) kn kc) (blk_set_eq (i := 0) (u := .slice a1 n c1') br7)
        have hx8 := ex_set_new (i := 1) (u := .slice (some ⟨kb, 0, none⟩) kn kc) (g := w.heap.size + 1 + 1 + 1) (ex_set_new (i := 0) (u := .slice a1 n c1') (g := w.heap.size + 1 + 1 + 1) hx7 (by omega)) (by omega)
        go_wp2
        generalize (w7.setCell ⟨w.heap.size + 1 + 1 + 1, 0, none⟩ (.slice a1 n c1')).setCell ⟨w.heap.size + 1 + 1 + 1, 1, none⟩ (.slice (some ⟨kb, 0, none⟩) kn kc) = w9 at *
        have f0 := cell_blk (i := 0) br8 rfl
        have f1 := cell_blk (i := 1) br8 rfl
        have hpost : RetG w ⟨gr.sl, gr.ks.set k (put (nth [] gr.ks k) 0 ((j : Int), x2))⟩ 0 (.returned (.tuple #[.agg #[.slice a1 n c1', .slice (some ⟨kb, 0, none⟩) kn kc], .int .i64 0])) w9 := by
          have e2 : (Gr.mk gr.sl (gr.ks.set k (put (nth [] gr.ks k) 0 ((j : Int), x2)))).ks.length = kn := by show (gr.ks.set k _).length = kn; rw [List.length_set]; exact hlen
          have e1 : (Gr.mk gr.sl (gr.ks.set k (put (nth [] gr.ks k) 0 ((j : Int), x2)))).sl.length = n := hsl
          refine ⟨a1, c1', some ⟨kb, 0, none⟩, kc, hs1.set k ⟨nb, 1, nd⟩, ?_, hx8, ?_⟩
          · rw [e1, e2]
          · rw [e1, e2]; exact og8
        exact bodyPost_ret (v := .tuple #[.agg #[.slice a1 n c1', .slice (some ⟨kb, 0, none⟩) kn kc], .int .i64 0]) (by simp [results, Try.results21, go_sem, f0, f1]) rfl hpost
  obtain ⟨rg, ro, hrA, hrg, hrc⟩ := hrow.some (by omega)
  have hT1 := hrowW.take f2_c (k := p) (by omega)
  rw [hrA] at hrowW hT1
  have hT2 := hrowW.drop f2_c (k := p) (by omega)
  clear hn5
  go_upto_region 15 with (at_builtin; refine wpList_append_lay (T := w2) (l := []) rfl _ _ rfl kinH f2_c f2_1 rfl (by with_reducible repeat (first | exact ex_refl _ | exact ex_more | apply ex_alloc | apply ex_plus | apply ex_drew | apply ex_drewN)) own_nil rfl hT1 (by omega) (by decide) ?_; intro na nc y1' hown1; rw [Nat.zero_add, List.nil_append] at hown1)
  go_upto_region 16 with (at_builtin; refine wpList_append_lay (T := w2) rfl _ _ rfl kinH f2_c f2_1 rfl (by with_reducible repeat (first | exact ex_refl _ | exact ex_more | apply ex_alloc | apply ex_plus | apply ex_drew | apply ex_drewN)) (hown1.ex (by with_reducible repeat (first | exact ex_refl _ | exact ex_more | apply ex_alloc | apply ex_plus | apply ex_drew | apply ex_drewN))) rfl (l2 := [((j : Int), x2)]) ⟨rfl, .inr ⟨_, 0, rfl, by (simp [go_sem]; try omega), fun jj u hu => by match jj, hu with | 0, hu => (simp [f2] at hu; subst hu; simp [go_sem, ↓IntWalk.iteOmega]) | 1, hu => (simp [f2] at hu; subst hu; simp [go_sem, ↓IntWalk.iteOmega]) | jj + 2, hu => simp [f2] at hu⟩⟩ (by omega) (by decide) ?_; intro nb1 nd1 y3 hown3)
  by_cases hcp : (nth dRH hs k).cap = p
  · have hT3 : Lay f2 w2 (some ⟨rg, ro, none⟩) ((nth dRH hs k).n - p) ((nth [] gr.ks k).drop p) := ⟨by rw [List.length_drop, hrl], .inl (by omega)⟩
    go_upto_region 17 with (at_builtin; refine wpList_append_lay (T := w2) rfl _ _ rfl kinH f2_c f2_1 rfl (by with_reducible repeat (first | exact ex_refl _ | exact ex_more | apply ex_alloc | apply ex_plus | apply ex_drew | apply ex_drewN)) (hown3.ex (by with_reducible repeat (first | exact ex_refl _ | exact ex_more | apply ex_alloc | apply ex_plus | apply ex_drew | apply ex_drewN))) rfl (hT3.ex (by with_reducible repeat (first | exact ex_refl _ | exact ex_more | apply ex_alloc | apply ex_plus | apply ex_drew | apply ex_drewN))) (by omega) (by decide) ?_; intro nb nd y2 hown2; rw [List.append_assoc] at hown2)
    refine name_world (fun w' => (∃ y, w' = plus w y) ∧ GrOwn w w' a1 n c1' (some ⟨kb, 0, none⟩) kn kc hs1 gr ∧ w'.heap[w1.heap.size]? = some (.cells #[.slice a1 n c1', .slice (some ⟨kb, 0, none⟩) kn kc] 27) ∧ w'.heap[w.heap.size + 1]? = some (.cells #[.int .i64 k, .int .i64 g] 29) ∧ w'.heap[w.heap.size + 1 + 1 + 1]? = some (.cells #[.slice none 0 0, .slice none 0 0] 27) ∧ Own 29 2 f2 w w' nb (p + 1 + ((nth dRH hs k).n - p)) nd (put (nth [] gr.ks k) p ((j : Int), x2))) ⟨ex_on (by with_reducible repeat (first | exact ex_refl _ | exact ex_more | apply ex_alloc | apply ex_plus | apply ex_drew | apply ex_drewN)) hx2, og2.ex (by with_reducible repeat (first | exact ex_refl _ | exact ex_more | apply ex_alloc | apply ex_plus | apply ex_drew | apply ex_drewN)), blk_ex (by with_reducible repeat (first | exact ex_refl _ | exact ex_more | apply ex_alloc | apply ex_plus | apply ex_drew | apply ex_drewN)) bv, blk_ex (by with_reducible repeat (first | exact ex_refl _ | exact ex_more | apply ex_alloc | apply ex_plus | apply ex_drew | apply ex_drewN)) bh, blk_ex (by with_reducible repeat (first | exact ex_refl _ | exact ex_more | apply ex_alloc | apply ex_plus | apply ex_drew | apply ex_drewN)) br, hown2.base (size_ex hx2)⟩ ?_
    rintro w6 ⟨hx6, og6, bv6, bh6, br6, on6⟩
    clear og2 bv bh br v0 v1 h0 hown1 hown2 hown3 hkbb lh lr lv
    obtain ⟨_, kcur6, e0, _, hkb6, _⟩ := og6.kh.blk (by omega)
    cases e0
    have v1 := cell_blk (i := 1) bv6 rfl
    have v0 := cell_blk (i := 0) bv6 rfl
    have h0 := cell_blk (i := 0) bh6 rfl
    obtain ⟨_, _, e0, lkb, hkc6⟩ := og6.kh.lay.some (by omega)
    cases e0
    have q0 := cellR og6.kh.1 hkc6 hkl
    rw [Nat.zero_add] at q0
    have z0 := frozen_blk (i := k) hkb6
    have og7 := og6.setRow (k := k) (r := ⟨nb, p + 1 + ((nth dRH hs k).n - p), nd⟩) hkl on6
    have nv : kb ≠ w1.heap.size := by
      intro e0
      rw [e0, bv6] at hkb6
      cases hkb6
    have nr : kb ≠ w.heap.size + 1 + 1 + 1 := by
      intro e0
      rw [e0, br6] at hkb6
      cases hkb6
    have bv7 : (w6.setCell ⟨kb, k, none⟩ (.slice nb (p + 1 + ((nth dRH hs k).n - p)) nd)).heap[w1.heap.size]? = _ := (blk_set_ne nv).trans bv6
    have br7 : (w6.setCell ⟨kb, k, none⟩ (.slice nb (p + 1 + ((nth dRH hs k).n - p)) nd)).heap[w.heap.size + 1 + 1 + 1]? = _ := (blk_set_ne nr).trans br6
    have hx7 : ∃ y, w6.setCell ⟨kb, k, none⟩ (.slice nb (p + 1 + ((nth dRH hs k).n - p)) nd) = plus w y := ex_set_new hx6 hkb
    go_upto_region 18 with fail
    refine name_world (fun w' => w' = w6.setCell ⟨kb, k, none⟩ (.slice nb (p + 1 + ((nth dRH hs k).n - p)) nd)) rfl ?_
    rintro w7 e7
    rw [← e7] at og7 bv7 br7 hx7
    clear e7 og6 bv6 bh6 br6 on6 hkb6 v0 v1 h0 q0 z0 hkc6
    have v0 := cell_blk (i := 0) bv7 rfl
    have v1 := cell_blk (i := 1) bv7 rfl
    have r0 := cell_blk (i := 0) br7 rfl
    have r1 := cell_blk (i := 1) br7 rfl
    have y0 := frozen_blk (i := 0) br7
    have y1 := frozen_blk (i := 1) br7
    have og8 := (og7.set_other (i := 0) (u := .slice a1 n c1') br7 (by decide) (by decide) (by decide)).set_other (i := 1) (u := .slice (some ⟨kb, 0, none⟩) kn kc) (blk_set_eq br7) (by decide) (by decide) (by decide)
    have br8 := blk_set_eq (i := 1) (u := .slice (some ⟨kb, 0, none⟩) kn kc) (blk_set_eq (i := 0) (u := .slice a1 n c1') br7)
    have hx8 := ex_set_new (i := 1) (u := .slice (some ⟨kb, 0, none⟩) kn kc) (g := w.heap.size + 1 + 1 + 1) (ex_set_new (i := 0) (u := .slice a1 n c1') (g := w.heap.size + 1 + 1 + 1) hx7 (by omega)) (by omega)
    go_wp2
    generalize (w7.setCell ⟨w.heap.size + 1 + 1 + 1, 0, none⟩ (.slice a1 n c1')).setCell ⟨w.heap.size + 1 + 1 + 1, 1, none⟩ (.slice (some ⟨kb, 0, none⟩) kn kc) = w9 at *
    have f0 := cell_blk (i := 0) br8 rfl
    have f1 := cell_blk (i := 1) br8 rfl
    have hpost : RetG w ⟨gr.sl, gr.ks.set k (put (nth [] gr.ks k) p ((j : Int), x2))⟩ 0 (.returned (.tuple #[.agg #[.slice a1 n c1', .slice (some ⟨kb, 0, none⟩) kn kc], .int .i64 0])) w9 := by
      have e2 : (Gr.mk gr.sl (gr.ks.set k (put (nth [] gr.ks k) p ((j : Int), x2)))).ks.length = kn := by show (gr.ks.set k _).length = kn; rw [List.length_set]; exact hlen
      have e1 : (Gr.mk gr.sl (gr.ks.set k (put (nth [] gr.ks k) p ((j : Int), x2)))).sl.length = n := hsl
      refine ⟨a1, c1', some ⟨kb, 0, none⟩, kc, hs1.set k ⟨nb, p + 1 + ((nth dRH hs k).n - p), nd⟩, ?_, hx8, ?_⟩
      · rw [e1, e2]
      · rw [e1, e2]; exact og8
    exact bodyPost_ret (v := .tuple #[.agg #[.slice a1 n c1', .slice (some ⟨kb, 0, none⟩) kn kc], .int .i64 0]) (by simp [results, Try.results21, go_sem, f0, f1]) rfl hpost
  · skip
    go_upto_region 17 with (at_builtin; refine wpList_append_lay (T := w2) rfl _ _ rfl kinH f2_c f2_1 rfl (by with_reducible repeat (first | exact ex_refl _ | exact ex_more | apply ex_alloc | apply ex_plus | apply ex_drew | apply ex_drewN)) (hown3.ex (by with_reducible repeat (first | exact ex_refl _ | exact ex_more | apply ex_alloc | apply ex_plus | apply ex_drew | apply ex_drewN))) rfl (hT2.ex (by with_reducible repeat (first | exact ex_refl _ | exact ex_more | apply ex_alloc | apply ex_plus | apply ex_drew | apply ex_drewN))) (by omega) (by decide) ?_; intro nb nd y2 hown2; rw [List.append_assoc] at hown2)
    refine name_world (fun w' => (∃ y, w' = plus w y) ∧ GrOwn w w' a1 n c1' (some ⟨kb, 0, none⟩) kn kc hs1 gr ∧ w'.heap[w1.heap.size]? = some (.cells #[.slice a1 n c1', .slice (some ⟨kb, 0, none⟩) kn kc] 27) ∧ w'.heap[w.heap.size + 1]? = some (.cells #[.int .i64 k, .int .i64 g] 29) ∧ w'.heap[w.heap.size + 1 + 1 + 1]? = some (.cells #[.slice none 0 0, .slice none 0 0] 27) ∧ Own 29 2 f2 w w' nb (p + 1 + ((nth dRH hs k).n - p)) nd (put (nth [] gr.ks k) p ((j : Int), x2))) ⟨ex_on (by with_reducible repeat (first | exact ex_refl _ | exact ex_more | apply ex_alloc | apply ex_plus | apply ex_drew | apply ex_drewN)) hx2, og2.ex (by with_reducible repeat (first | exact ex_refl _ | exact ex_more | apply ex_alloc | apply ex_plus | apply ex_drew | apply ex_drewN)), blk_ex (by with_reducible repeat (first | exact ex_refl _ | exact ex_more | apply ex_alloc | apply ex_plus | apply ex_drew | apply ex_drewN)) bv, blk_ex (by with_reducible repeat (first | exact ex_refl _ | exact ex_more | apply ex_alloc | apply ex_plus | apply ex_drew | apply ex_drewN)) bh, blk_ex (by with_reducible repeat (first | exact ex_refl _ | exact ex_more | apply ex_alloc | apply ex_plus | apply ex_drew | apply ex_drewN)) br, hown2.base (size_ex hx2)⟩ ?_
    rintro w6 ⟨hx6, og6, bv6, bh6, br6, on6⟩
    clear og2 bv bh br v0 v1 h0 hown1 hown2 hown3 hkbb lh lr lv
    obtain ⟨_, kcur6, e0, _, hkb6, _⟩ := og6.kh.blk (by omega)
    cases e0
    have v1 := cell_blk (i := 1) bv6 rfl
    have v0 := cell_blk (i := 0) bv6 rfl
    have h0 := cell_blk (i := 0) bh6 rfl
    obtain ⟨_, _, e0, lkb, hkc6⟩ := og6.kh.lay.some (by omega)
    cases e0
    have q0 := cellR og6.kh.1 hkc6 hkl
    rw [Nat.zero_add] at q0
    have z0 := frozen_blk (i := k) hkb6
    have og7 := og6.setRow (k := k) (r := ⟨nb, p + 1 + ((nth dRH hs k).n - p), nd⟩) hkl on6
    have nv : kb ≠ w1.heap.size := by
      intro e0
      rw [e0, bv6] at hkb6
      cases hkb6
    have nr : kb ≠ w.heap.size + 1 + 1 + 1 := by
      intro e0
      rw [e0, br6] at hkb6
      cases hkb6
    have bv7 : (w6.setCell ⟨kb, k, none⟩ (.slice nb (p + 1 + ((nth dRH hs k).n - p)) nd)).heap[w1.heap.size]? = _ := (blk_set_ne nv).trans bv6
    have br7 : (w6.setCell ⟨kb, k, none⟩ (.slice nb (p + 1 + ((nth dRH hs k).n - p)) nd)).heap[w.heap.size + 1 + 1 + 1]? = _ := (blk_set_ne nr).trans br6
    have hx7 : ∃ y, w6.setCell ⟨kb, k, none⟩ (.slice nb (p + 1 + ((nth dRH hs k).n - p)) nd) = plus w y := ex_set_new hx6 hkb
    go_upto_region 18 with fail
    refine name_world (fun w' => w' = w6.setCell ⟨kb, k, none⟩ (.slice nb (p + 1 + ((nth dRH hs k).n - p)) nd)) rfl ?_
    rintro w7 e7
    rw [← e7] at og7 bv7 br7 hx7
    clear e7 og6 bv6 bh6 br6 on6 hkb6 v0 v1 h0 q0 z0 hkc6
    have v0 := cell_blk (i := 0) bv7 rfl
    have v1 := cell_blk (i := 1) bv7 rfl
    have r0 := cell_blk (i := 0) br7 rfl
    have r1 := cell_blk (i := 1) br7 rfl
    have y0 := frozen_blk (i := 0) br7
    have y1 := frozen_blk (i := 1) br7
    have og8 := (og7.set_other (i := 0) (u := .slice a1 n c1') br7 (by decide) (by decide) (by decide)).set_other (i := 1) (u := .slice (some ⟨kb, 0, none⟩) kn kc) (blk_set_eq br7) (by decide) (by decide) (by decide)
    have br8 := blk_set_eq (i := 1) (u := .slice (some ⟨kb, 0, none⟩) kn kc) (blk_set_eq (i := 0) (u := .slice a1 n c1') br7)
    have hx8 := ex_set_new (i := 1) (u := .slice (some ⟨kb, 0, none⟩) kn kc) (g := w.heap.size + 1 + 1 + 1) (ex_set_new (i := 0) (u := .slice a1 n c1') (g := w.heap.size + 1 + 1 + 1) hx7 (by omega)) (by omega)
    go_wp2
    generalize (w7.setCell ⟨w.heap.size + 1 + 1 + 1, 0, none⟩ (.slice a1 n c1')).setCell ⟨w.heap.size + 1 + 1 + 1, 1, none⟩ (.slice (some ⟨kb, 0, none⟩) kn kc) = w9 at *
    have f0 := cell_blk (i := 0) br8 rfl
    have f1 := cell_blk (i := 1) br8 rfl
    have hpost : RetG w ⟨gr.sl, gr.ks.set k (put (nth [] gr.ks k) p ((j : Int), x2))⟩ 0 (.returned (.tuple #[.agg #[.slice a1 n c1', .slice (some ⟨kb, 0, none⟩) kn kc], .int .i64 0])) w9 := by
      have e2 : (Gr.mk gr.sl (gr.ks.set k (put (nth [] gr.ks k) p ((j : Int), x2)))).ks.length = kn := by show (gr.ks.set k _).length = kn; rw [List.length_set]; exact hlen
      have e1 : (Gr.mk gr.sl (gr.ks.set k (put (nth [] gr.ks k) p ((j : Int), x2)))).sl.length = n := hsl
      refine ⟨a1, c1', some ⟨kb, 0, none⟩, kc, hs1.set k ⟨nb, p + 1 + ((nth dRH hs k).n - p), nd⟩, ?_, hx8, ?_⟩
      · rw [e1, e2]
      · rw [e1, e2]; exact og8
    exact bodyPost_ret (v := .tuple #[.agg #[.slice a1 n c1', .slice (some ⟨kb, 0, none⟩) kn kc], .int .i64 0]) (by simp [results, Try.results21, go_sem, f0, f1]) rfl hpost

end Go.Proofs.Ytmmflpjfgapaaaa
