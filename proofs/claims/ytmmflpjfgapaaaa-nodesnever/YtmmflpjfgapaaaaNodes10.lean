/- What dioramaref06.Kill gives. -/
import Derived.Test.YtmmflpjfgapaaaaNodes9
namespace Go.Proofs.Ytmmflpjfgapaaaa
open Go.RowKit Go.ChangeShapes Go.WideShapes Go.ChangeAt
set_option linter.unusedSimpArgs false
set_option linter.unusedVariables false
attribute [local go_sem] plus_size plus_drew dn_set dn_alloc dn_plus plus_dn cell_plus frozen_plus set_plus cell_alloc frozen_alloc set_alloc

def killRG (g : Gr) (h : Int × Int) : Gr := if askErr g h h = 0 then killG g h else zeroG
/-- the first i rows without one -/
def kmapTo (h : Int × Int) (ks : List (List (Int × Int))) : Nat → List (List (Int × Int))
  | 0 => ks
  | i + 1 => (kmapTo h ks i).set i (without h (nth [] ks i))
theorem kmap_len (h : Int × Int) (ks : List (List (Int × Int))) : ∀ i, (kmapTo h ks i).length = ks.length
  | 0 => rfl
  | i + 1 => by rw [kmapTo, List.length_set]; exact kmap_len h ks i
theorem kmap_nth (h : Int × Int) (ks : List (List (Int × Int))) (j : Nat) : ∀ i, i ≤ ks.length → nth [] (kmapTo h ks i) j = if j < i then without h (nth [] ks j) else nth [] ks j
  | 0, _ => by rw [if_neg (by omega)]; rfl
  | i + 1, hi => by
    have ih := kmap_nth h ks j i (by omega)
    rw [kmapTo, nth_set' (by rw [kmap_len]; omega), ih]
    by_cases e : j = i
    · subst e
      rw [if_pos rfl, if_pos (by omega)]
    · rw [if_neg e]
      by_cases hj : j < i
      · rw [if_pos hj, if_pos (by omega)]
      · rw [if_neg hj, if_neg (by omega)]
theorem kmap_all (h : Int × Int) (ks : List (List (Int × Int))) : kmapTo h ks ks.length = ks.map (without h) := by
  refine ext_nth (d := []) (by rw [kmap_len, List.length_map]) fun k hk => ?_
  rw [kmap_len] at hk
  rw [kmap_nth h ks k _ (Nat.le_refl _), if_pos hk]
  exact (nth_map (d := ([] : List (Int × Int))) (e := []) (f := without h) rfl ks k).symm
theorem rkill_is {ao : Option Addr} {n cap n' : Nat} {l r : List Sl} {s g er : Int} {w : World} (hr : killRes l s g = r) (he : killErr l s g = er) (hn' : r.length = n') (hl : Lay fS w ao n l) (hn : n ≤ 1000) :
    Calls Try.prog 53 #[.agg #[.slice ao n cap], .agg #[.int .i64 s, .int .i64 g]] w fun e w' => ∃ ao' cap', e = .returned (.tuple #[.agg #[.slice ao' n' cap'], .int .i64 er]) ∧ (∃ y, w' = plus w y) ∧ Own 67 2 fS w w' ao' n' cap' r := by
  subst hr he hn'
  exact rkill_calls ao n cap l s g w hl hn

/-- a graph that is being changed in its variable -/
structure KLI (w : World) (p : Nat) (xa : Option Addr) (n xc kb kn kc : Nat) (hs : List RH) (g : Gr) (hc : Array Value) (wr : World) : Prop where
  ex : ∃ y, wr = plus w y
  own : GrOwn w wr xa n xc (some ⟨kb, 0, none⟩) kn kc hs g
  box : wr.heap[p]? = some (.cells #[.slice xa n xc, .slice (some ⟨kb, 0, none⟩) kn kc] 27)
  bh : wr.heap[w.heap.size + 1]? = some (.cells hc 29)
  br : wr.heap[w.heap.size + 1 + 1]? = some (.cells #[.slice none 0 0, .slice none 0 0] 27)
section
variable {w wr wr' : World} {p : Nat} {xa : Option Addr} {n xc kb kn kc : Nat} {hs : List RH} {g : Gr} {hc : Array Value}
theorem KLI.on (h : KLI w p xa n xc kb kn kc hs g hc wr) (hw : ∃ x, wr' = plus wr x) : KLI w p xa n xc kb kn kc hs g hc wr' := ⟨ex_trans h.ex hw, h.own.ex hw, blk_ex hw h.box, blk_ex hw h.bh, blk_ex hw h.br⟩
theorem KLI.kb_blk (h : KLI w p xa n xc kb kn kc hs g hc wr) (hk : 0 < kn) : ∃ cur, wr.heap[kb]? = some (.cells cur 36) ∧ w.heap.size ≤ kb ∧ kb < wr.heap.size := by
  obtain ⟨_, cur, e0, h1, h2, _⟩ := h.own.kh.blk hk
  cases e0
  exact ⟨cur, h2, h1, blk_lt h2⟩
theorem KLI.head (h : KLI w p xa n xc kb kn kc hs g hc wr) {k : Nat} (hk : k < kn) : wr.cell? ⟨kb, k, none⟩ = some (.slice (nth dRH hs k).ao (nth dRH hs k).n (nth dRH hs k).cap) ∧ wr.frozen? ⟨kb, k, none⟩ = false := by
  obtain ⟨cur, hb, _, _⟩ := h.kb_blk (by omega)
  obtain ⟨_, _, e0, _, hcell⟩ := h.own.kh.lay.some (by omega)
  cases e0
  have c := cellR h.own.kh.1 hcell hk
  rw [Nat.zero_add] at c
  exact ⟨c, frozen_blk hb⟩
theorem KLI.setRow {k : Nat} {r : RH} {l : List (Int × Int)} (h : KLI w p xa n xc kb kn kc hs g hc wr) (hk : k < kn) (o : Own 29 2 f2 w wr r.ao r.n r.cap l) : KLI w p xa n xc kb kn kc (hs.set k r) ⟨g.sl, g.ks.set k l⟩ hc (wr.setCell ⟨kb, k, none⟩ (.slice r.ao r.n r.cap)) := by
  obtain ⟨cur, hb, h1, _⟩ := h.kb_blk (by omega)
  have ne : ∀ {q : Nat} {c : Array Value} {e : TypeId}, wr.heap[q]? = some (.cells c e) → e ≠ 36 → (wr.setCell ⟨kb, k, none⟩ (.slice r.ao r.n r.cap)).heap[q]? = some (.cells c e) := by
    intro q c e hq he
    rw [blk_set_ne ?_]
    · exact hq
    · intro e0
      rw [e0, hq] at hb
      cases hb
      exact he rfl
  exact ⟨ex_set_new h.ex h1, h.own.setRow hk o, ne h.box (by decide), ne h.bh (by decide), ne h.br (by decide)⟩
end

def k6S (i : Nat) : List Nat := match i with | 0 => [37] | 1 => [38] | 2 => [39] | 3 => [40] | 4 => [41] | 5 => [42] | 6 => [43] | 7 => [44] | 8 => [45] | 9 => [46] | 10 => [47] | _ => []
def k6Φ (W : World) (p kb kn kc i : Nat) (rv hv : Value) (R : List (Int × Int)) (j : Nat) (t : Nat → Value) (w' : World) : Prop := match j with
  | 0 => t 37 = .pointer (some ⟨p, 1, none⟩)
  | 1 => t 38 = .slice (some ⟨kb, 0, none⟩) kn kc
  | 2 => t 39 = .int .i64 i
  | 3 => t 40 = .pointer (some ⟨p, 1, none⟩)
  | 4 => t 41 = .slice (some ⟨kb, 0, none⟩) kn kc
  | 5 => t 42 = .int .i64 i
  | 6 => t 43 = .pointer (some ⟨kb, i, none⟩)
  | 7 => t 44 = rv
  | 8 => t 45 = hv
  | 9 => ∃ xa xc, t 46 = .slice xa R.length xc ∧ Own 29 2 f2 W w' xa R.length xc R
  | 10 => t 47 = .pointer (some ⟨kb, i, none⟩)
  | _ => True
theorem k6Φ_mono (W : World) (p kb kn kc i : Nat) (rv hv : Value) (R : List (Int × Int)) : ∀ j t t' w' x, k6Φ W p kb kn kc i rv hv R j t w' → (∀ s ∈ k6S j, t' s = t s) → k6Φ W p kb kn kc i rv hv R j t' (plus w' x) := by
  intro j t t' w' x h hs'
  match j with
  | 0 => exact (hs' 37 (by decide)).trans h
  | 1 => exact (hs' 38 (by decide)).trans h
  | 2 => exact (hs' 39 (by decide)).trans h
  | 3 => exact (hs' 40 (by decide)).trans h
  | 4 => exact (hs' 41 (by decide)).trans h
  | 5 => exact (hs' 42 (by decide)).trans h
  | 6 => exact (hs' 43 (by decide)).trans h
  | 7 => exact (hs' 44 (by decide)).trans h
  | 8 => exact (hs' 45 (by decide)).trans h
  | 9 =>
    obtain ⟨xa, xc, e, o⟩ := h
    exact ⟨xa, xc, (hs' 46 (by decide)).trans e, o.plus x⟩
  | 10 => exact (hs' 47 (by decide)).trans h
  | j + 11 => trivial

set_option maxRecDepth 100000 in
set_option maxHeartbeats 8000000 in
theorem gkill_calls (ao : Option Addr) (n cap : Nat) (ko : Option Addr) (kn kcap : Nat) (hs : List RH) (gr : Gr) (s g : Int) (w : World) (hG : GrAt w ao n ko kn hs gr) :
    Calls Try.prog 20 #[.agg #[.slice ao n cap, .slice ko kn kcap], .agg #[.int .i64 s, .int .i64 g]] w fun e w' => RetG w (killRG gr (s, g)) (askErr gr (s, g) (s, g)) e w' := by
  have hlen := hG.kl
  have hkh := hG.kh.len
  have hsl := hG.sl.len
  have m1 := hG.n1
  have m2 := hG.n2
  rcases ask_err gr (s, g) (s, g) with he | he | he
  rotate_left
  · rw [he, show killRG gr (s, g) = zeroG by rw [killRG, he]; rfl]
    go_enter Try.func20, Try.ntmps20
    go_wp2_with (go_at_call 52; refine (plus_post (asked_is he (hG.ex (by with_reducible repeat (first | exact ex_refl _ | exact ex_more | apply ex_alloc | apply ex_plus | apply ex_drew | apply ex_drewN))))).mono ?_; rintro e w' ⟨rfl, nx, rfl⟩)
    exact bodyPost_ret (v := .tuple #[.agg #[.slice none 0 0, .slice none 0 0], .int .i64 8]) (by simp [results, Try.results20, go_sem, ↓IntWalk.iteOmega]) rfl ⟨none, 0, none, 0, [], rfl, (by with_reducible repeat (first | exact ex_refl _ | exact ex_more | apply ex_alloc | apply ex_plus | apply ex_drew | apply ex_drewN)), own_zero⟩
  · rw [he, show killRG gr (s, g) = zeroG by rw [killRG, he]; rfl]
    go_enter Try.func20, Try.ntmps20
    go_wp2_with (go_at_call 52; refine (plus_post (asked_is he (hG.ex (by with_reducible repeat (first | exact ex_refl _ | exact ex_more | apply ex_alloc | apply ex_plus | apply ex_drew | apply ex_drewN))))).mono ?_; rintro e w' ⟨rfl, nx, rfl⟩)
    exact bodyPost_ret (v := .tuple #[.agg #[.slice none 0 0, .slice none 0 0], .int .i64 50]) (by simp [results, Try.results20, go_sem, ↓IntWalk.iteOmega]) rfl ⟨none, 0, none, 0, [], rfl, (by with_reducible repeat (first | exact ex_refl _ | exact ex_more | apply ex_alloc | apply ex_plus | apply ex_drew | apply ex_drewN)), own_zero⟩
  obtain ⟨hok, hh, _⟩ := ask_ok he
  have hl := held_lt hh
  simp only at hl hh
  obtain ⟨harOk, h2, h3, _⟩ := gr_parts hok
  obtain ⟨k, rfl⟩ : ∃ k : Nat, s = (k : Int) := ⟨s.toNat, by omega⟩
  rw [Int.toNat_natCast] at hl
  have hkl : k < kn := by omega
  have ik : (k : Int) < (kn : Int) := by omega
  have hkE : killErr gr.sl k g = 0 := by rw [killErr, if_pos harOk, if_pos hh]
  have hkR : killRes gr.sl k g = killList gr.sl k := by rw [killRes, if_pos hkE]
  have hkL : (killList gr.sl k).length = n := by rw [killList, List.length_set]; exact hsl
  have hres : killRG gr ((k : Int), g) = ⟨killList gr.sl k, (kmapTo ((k : Int), g) gr.ks kn).set k []⟩ := by
    rw [killRG, he, if_pos rfl, ← hlen, kmap_all]
    show Gr.mk (killList gr.sl (k : Int)) ((gr.ks.map _).set ((k : Int)).toNat []) = _
    rw [Int.toNat_natCast]
  rw [he, hres]
  obtain ⟨kg, kf, rfl, hkg, hkc⟩ := hG.kh.some (by omega)
  have hrow3 : ∀ j, j < kn → (nth [] gr.ks j).length ≤ 1000 := fun j hj => by rw [hG.rl hj]; exact hG.n3 j (by omega)
  go_enter Try.func20, Try.ntmps20
  go_upto_region 5 with (first | (go_at_call 52; refine (plus_post (asked_is he (hG.ex (by with_reducible repeat (first | exact ex_refl _ | exact ex_more | apply ex_alloc | apply ex_plus | apply ex_drew | apply ex_drewN))))).mono ?_; rintro e w' ⟨rfl, nx, rfl⟩) | (go_at_call 17; refine (gtwin_calls _ _ _ _ _ _ hs gr _ (hG.ex (by with_reducible repeat (first | exact ex_refl _ | exact ex_more | apply ex_alloc | apply ex_plus | apply ex_drew | apply ex_drewN)))).mono ?_; rintro e w1 ⟨a1, c1, ka, kc, hs1, rfl, hw1, og⟩))
  have hzw := size_ex hw1
  have og2 := (og.ex (ex_alloc (o := (.cells #[.slice a1 n c1, .slice ka kn kc] 27)) (ex_refl w1))).base (T' := w) (by simp [go_sem]; omega)
  have hx2 : ∃ y, w1.alloc (.cells #[.slice a1 n c1, .slice ka kn kc] 27) = plus w y := (by with_reducible repeat (first | exact ex_refl _ | exact ex_more | apply ex_alloc | apply ex_plus | apply ex_drew | apply ex_drewN | (apply ex_on; assumption)))
  have bv : (w1.alloc (.cells #[.slice a1 n c1, .slice ka kn kc] 27)).heap[w1.heap.size]? = some (.cells #[.slice a1 n c1, .slice ka kn kc] 27) := by rw [blk_alloc, if_pos rfl]
  have bh : (w1.alloc (.cells #[.slice a1 n c1, .slice ka kn kc] 27)).heap[w.heap.size + 1]? = some (.cells #[.int .i64 k, .int .i64 g] 29) := blk_ex (w := ((w.alloc (.cells #[.slice ao n cap, .slice (some ⟨kg, kf, none⟩) kn kcap] 27)).alloc (.cells #[.int .i64 k, .int .i64 g] 29))) (by with_reducible repeat (first | exact ex_refl _ | exact ex_more | apply ex_alloc | apply ex_plus | apply ex_drew | apply ex_drewN | (apply ex_on; assumption))) (by rw [blk_alloc, if_pos (by simp)])
  have br : (w1.alloc (.cells #[.slice a1 n c1, .slice ka kn kc] 27)).heap[w.heap.size + 1 + 1]? = some (.cells #[.slice none 0 0, .slice none 0 0] 27) := blk_ex (w := (((w.alloc (.cells #[.slice ao n cap, .slice (some ⟨kg, kf, none⟩) kn kcap] 27)).alloc (.cells #[.int .i64 k, .int .i64 g] 29)).alloc (.cells #[.slice none 0 0, .slice none 0 0] 27))) (by with_reducible repeat (first | exact ex_refl _ | exact ex_more | apply ex_alloc | apply ex_plus | apply ex_drew | apply ex_drewN | (apply ex_on; assumption))) (by rw [blk_alloc, if_pos (by simp)])
  clear og
  have lv := blk_lt bv
  generalize w1.alloc (.cells #[.slice a1 n c1, .slice ka kn kc] 27) = w2 at *
  obtain ⟨kb, kcur, rfl, hkb, hkbb, _⟩ := og2.kh.blk (by omega)
  have v0 := cell_blk (i := 0) bv rfl
  have v1 := cell_blk (i := 1) bv rfl
  have h0 := cell_blk (i := 0) bh rfl
  have lh := blk_lt bh
  have lr := blk_lt br
  have hzs : w.heap.size + 1 + 1 + 1 ≤ w1.heap.size := by
    have := size_ex hw1
    simp [go_sem] at this
    omega
  have h1 := cell_blk (i := 1) bh rfl
  go_upto_region 7 with (go_at_call 53; refine (rkill_is hkR hkE hkL (og2.sl.lay.ex (by with_reducible repeat (first | exact ex_refl _ | exact ex_more | apply ex_alloc | apply ex_plus | apply ex_drew | apply ex_drewN))) (by omega)).mono ?_; rintro e wk ⟨xa, xc, rfl, hwk, okl⟩; have vk := cell_blk (i := 0) (blk_ex hwk bv) rfl; have zk := frozen_blk (i := 0) (blk_ex hwk bv); have lk := blk_lt (blk_ex hwk bv))
  have bv3 := blk_set_eq (i := 0) (u := .slice xa n xc) (blk_ex hwk bv)
  have og3 := (og2.ex hwk).set_other (i := 0) (u := .slice xa n xc) (blk_ex hwk bv) (by decide) (by decide) (by decide)
  have ok3 := (okl.base (T' := w) (size_ex hx2)).set_other (i := 0) (u := .slice xa n xc) (blk_ex hwk bv) (by decide)
  have bh3 := (blk_set_ne (i := 0) (u := .slice xa n xc) (show w1.heap.size ≠ w.heap.size + 1 by omega)).trans (blk_ex hwk bh)
  have br3 := (blk_set_ne (i := 0) (u := .slice xa n xc) (show w1.heap.size ≠ w.heap.size + 1 + 1 by omega)).trans (blk_ex hwk br)
  have hx3 := ex_set_new (i := 0) (u := .slice xa n xc) (ex_on hwk hx2) (show w.heap.size ≤ w1.heap.size by omega)
  refine name_world (fun w' => KLI w w1.heap.size xa n xc kb kn kc hs1 ⟨killList gr.sl k, gr.ks⟩ #[.int .i64 k, .int .i64 g] w') (KLI.on ⟨hx3, ⟨ok3, og3.kh, og3.len, og3.row⟩, bv3, bh3, br3⟩ (by with_reducible repeat (first | exact ex_refl _ | exact ex_more | apply ex_alloc | apply ex_plus | apply ex_drew | apply ex_drewN))) ?_
  rintro w3 hI
  clear og2 bv bh br v0 v1 h0 h1 lh lr lv hkbb okl og3 ok3 bv3 bh3 br3 hx3 vk zk lk hwk
  have v1 := cell_blk (i := 1) hI.box rfl
  go_wp2
  go_loopw [10] (fun i_ wr => ∃ (i : Nat) (hs' : List RH), i ≤ kn ∧ i_ = .int .i64 i ∧ KLI w w1.heap.size xa n xc kb kn kc hs' ⟨killList gr.sl k, kmapTo ((k : Int), g) gr.ks i⟩ #[.int .i64 k, .int .i64 g] wr) (fun i_ _ => kn - (intOf i_).toNat)
  case atStart => exact ⟨0, hs1, Nat.zero_le _, rfl, hI⟩
  case round =>
    clear hI v1
    obtain ⟨i, hs', hi, rfl, hI⟩ := hrel
    have v0 := cell_blk (i := 0) hI.box rfl
    have v1 := cell_blk (i := 1) hI.box rfl
    have q0 := cell_blk (i := 0) hI.bh rfl
    have q1 := cell_blk (i := 1) hI.bh rfl
    have lb := blk_lt hI.box
    have lh := blk_lt hI.bh
    have lr := blk_lt hI.br
    by_cases hil : i < kn
    rotate_left
    · have ii : ¬ (i : Int) < (kn : Int) := by omega
      obtain rfl : i = kn := by omega
      obtain ⟨c0, z0⟩ := hI.head hkl
      have hI2 := hI.setRow (k := k) (r := dRH) (l := []) hkl own_nil
      go_upto_region 12 with fail
      refine name_world (fun w' => w' = wr.setCell ⟨kb, k, none⟩ (.slice none 0 0)) rfl ?_
      rintro w7 e7
      have hI7 : KLI w w1.heap.size xa n xc kb i kc (hs'.set k dRH) ⟨killList gr.sl k, (kmapTo ((k : Int), g) gr.ks i).set k []⟩ #[.int .i64 k, .int .i64 g] w7 := by rw [e7]; exact hI2
      clear e7 hI hI2 v0 v1 q0 q1 c0 z0
      obtain ⟨hx7, og7, bv7, _, br7⟩ := hI7
      have v0 := cell_blk (i := 0) bv7 rfl
      have v1 := cell_blk (i := 1) bv7 rfl
      have r0 := cell_blk (i := 0) br7 rfl
      have r1 := cell_blk (i := 1) br7 rfl
      have y0 := frozen_blk (i := 0) br7
      have y1 := frozen_blk (i := 1) br7
      have og8 := (og7.set_other (i := 0) (u := .slice xa n xc) br7 (by decide) (by decide) (by decide)).set_other (i := 1) (u := .slice (some ⟨kb, 0, none⟩) i kc) (blk_set_eq br7) (by decide) (by decide) (by decide)
      have br8 := blk_set_eq (i := 1) (u := .slice (some ⟨kb, 0, none⟩) i kc) (blk_set_eq (i := 0) (u := .slice xa n xc) br7)
      have hx8 := ex_set_new (i := 1) (u := .slice (some ⟨kb, 0, none⟩) i kc) (g := w.heap.size + 1 + 1) (ex_set_new (i := 0) (u := .slice xa n xc) (g := w.heap.size + 1 + 1) hx7 (by omega)) (by omega)
      go_wp2
      generalize (w7.setCell ⟨w.heap.size + 1 + 1, 0, none⟩ (.slice xa n xc)).setCell ⟨w.heap.size + 1 + 1, 1, none⟩ (.slice (some ⟨kb, 0, none⟩) i kc) = w9 at *
      have f0 := cell_blk (i := 0) br8 rfl
      have f1 := cell_blk (i := 1) br8 rfl
      have hpost : RetG w ⟨killList gr.sl k, (kmapTo ((k : Int), g) gr.ks i).set k []⟩ 0 (.returned (.tuple #[.agg #[.slice xa n xc, .slice (some ⟨kb, 0, none⟩) i kc], .int .i64 0])) w9 := by
        have e2 : (Gr.mk (killList gr.sl k) ((kmapTo ((k : Int), g) gr.ks i).set k [])).ks.length = i := by show ((kmapTo ((k : Int), g) gr.ks i).set k []).length = i; rw [List.length_set, kmap_len]; exact hlen
        have e1 : (Gr.mk (killList gr.sl k) ((kmapTo ((k : Int), g) gr.ks i).set k [])).sl.length = n := hkL
        refine ⟨xa, xc, some ⟨kb, 0, none⟩, kc, hs'.set k dRH, ?_, hx8, ?_⟩
        · rw [e1, e2]
        · rw [e1, e2]; exact og8
      exact bodyPost_ret (v := .tuple #[.agg #[.slice xa n xc, .slice (some ⟨kb, 0, none⟩) i kc], .int .i64 0]) (by simp [results, Try.results20, go_sem, f0, f1]) rfl hpost
    have ii : (i : Int) < (kn : Int) := by omega
    obtain ⟨c0, z0⟩ := hI.head hil
    obtain ⟨_, _, hkbw, lkb⟩ := hI.kb_blk (by omega)
    have hri : nth [] (kmapTo ((k : Int), g) gr.ks i) i = nth [] gr.ks i := by rw [kmap_nth _ _ _ _ (by omega), if_neg (by omega)]
    have orow := hI.own.row i (by rw [hI.own.kh.1]; exact hil)
    have horow : Own 29 2 f2 w wr (nth dRH hs' i).ao (nth dRH hs' i).n (nth dRH hs' i).cap (nth [] gr.ks i) := by rw [← hri]; exact orow
    have hrn : (nth dRH hs' i).n ≤ 1000 := by rw [← horow.1]; exact hrow3 i hil
    have hlay := horow.lay
    go_upto_region 10 with fail
    refine region_rels 11 k6S (k6Φ wr w1.heap.size kb kn kc i (.slice (nth dRH hs' i).ao (nth dRH hs' i).n (nth dRH hs' i).cap) (.agg #[.int .i64 k, .int .i64 g]) (without ((k : Int), g) (nth [] gr.ks i))) (by kernel_rfl) (by kernel_rfl) (by decide) (k6Φ_mono _ _ _ _ _ _ _ _ _) ?steps ?fin
    case steps =>
      refine ⟨?_, ?_, ?_, ?_, ?_, ?_, ?_, ?_, ?_, ?_, ?_, trivial⟩
      · intro a w' hg hfree hdeep
        obtain ⟨x, rfl⟩ := hg
        have f7 := hfree 7 (by kernel_rfl)
        simp only [k6Φ, got] at f7
        simp [go_sem] at f7
        unfold Oper.wp
        simp [go_sem, execOp, Act.eval, ↓IntWalk.iteOmega, f7]
        exact ⟨_, rfl, ex_refl _, by simp [k6Φ, upd]⟩
      · intro a w' hg hfree hdeep
        obtain ⟨x, rfl⟩ := hg
        have d0 := hdeep 0 (by kernel_rfl)
        simp only [k6Φ, got] at d0
        unfold Oper.wp
        simp [go_sem, execOp, Act.eval, ↓IntWalk.iteOmega, d0, v1]
        exact ⟨_, rfl, ex_refl _, by simp [k6Φ, upd]⟩
      · intro a w' hg hfree hdeep
        obtain ⟨x, rfl⟩ := hg
        have f10 := hfree 10 (by kernel_rfl)
        simp only [k6Φ, got] at f10
        simp [go_sem] at f10
        unfold Oper.wp
        simp [go_sem, execOp, Act.eval, ↓IntWalk.iteOmega, f10]
        exact ⟨_, rfl, ex_refl _, by simp [k6Φ, upd]⟩
      · intro a w' hg hfree hdeep
        obtain ⟨x, rfl⟩ := hg
        have f7 := hfree 7 (by kernel_rfl)
        simp only [k6Φ, got] at f7
        simp [go_sem] at f7
        unfold Oper.wp
        simp [go_sem, execOp, Act.eval, ↓IntWalk.iteOmega, f7]
        exact ⟨_, rfl, ex_refl _, by simp [k6Φ, upd]⟩
      · intro a w' hg hfree hdeep
        obtain ⟨x, rfl⟩ := hg
        have d3 := hdeep 3 (by kernel_rfl)
        simp only [k6Φ, got] at d3
        unfold Oper.wp
        simp [go_sem, execOp, Act.eval, ↓IntWalk.iteOmega, d3, v1]
        exact ⟨_, rfl, ex_refl _, by simp [k6Φ, upd]⟩
      · intro a w' hg hfree hdeep
        obtain ⟨x, rfl⟩ := hg
        have f10 := hfree 10 (by kernel_rfl)
        simp only [k6Φ, got] at f10
        simp [go_sem] at f10
        unfold Oper.wp
        simp [go_sem, execOp, Act.eval, ↓IntWalk.iteOmega, f10]
        exact ⟨_, rfl, ex_refl _, by simp [k6Φ, upd]⟩
      · intro a w' hg hfree hdeep
        obtain ⟨x, rfl⟩ := hg
        have d4 := hdeep 4 (by kernel_rfl)
        have d5 := hdeep 5 (by kernel_rfl)
        simp only [k6Φ, got] at d4 d5
        unfold Oper.wp
        simp [go_sem, execOp, Act.eval, ↓IntWalk.iteOmega, d4, d5, ii]
        exact ⟨_, rfl, ex_refl _, by simp [k6Φ, upd]⟩
      · intro a w' hg hfree hdeep
        obtain ⟨x, rfl⟩ := hg
        have d6 := hdeep 6 (by kernel_rfl)
        simp only [k6Φ, got] at d6
        unfold Oper.wp
        simp [go_sem, execOp, Act.eval, ↓IntWalk.iteOmega, d6, c0]
        exact ⟨_, rfl, ex_refl _, by simp [k6Φ, upd]⟩
      · intro a w' hg hfree hdeep
        obtain ⟨x, rfl⟩ := hg
        have f3 := hfree 3 (by kernel_rfl)
        simp only [k6Φ, got] at f3
        simp [go_sem] at f3
        unfold Oper.wp
        simp [go_sem, execOp, Act.eval, ↓IntWalk.iteOmega, f3, q0, q1]
        exact ⟨_, rfl, ex_refl _, by simp [k6Φ, upd]⟩
      · intro a w' hg hfree hdeep
        obtain ⟨x, rfl⟩ := hg
        have d7 := hdeep 7 (by kernel_rfl)
        have d8 := hdeep 8 (by kernel_rfl)
        simp only [k6Φ, got] at d7 d8
        unfold Oper.wp
        simp [go_sem, execOp, Act.eval, ↓IntWalk.iteOmega, d7, d8]
        refine (without_calls _ _ _ (nth [] gr.ks i) _ _ _ (hlay.ex (by with_reducible repeat (first | exact ex_refl _ | exact ex_more | apply ex_alloc | apply ex_plus | apply ex_drew | apply ex_drewN))) hrn).mono ?_
        rintro e w1' ⟨xa', xn', xc', rfl, hw1', o1'⟩
        obtain rfl : (without ((k : Int), g) (nth [] gr.ks i)).length = xn' := o1'.1
        exact ⟨_, rfl, hw1', xa', xc', by simp [upd], o1'.base (by rw [plus_size]; omega)⟩
      · intro a w' hg hfree hdeep
        obtain ⟨x, rfl⟩ := hg
        have d1 := hdeep 1 (by kernel_rfl)
        have d2 := hdeep 2 (by kernel_rfl)
        simp only [k6Φ, got] at d1 d2
        unfold Oper.wp
        simp [go_sem, execOp, Act.eval, ↓IntWalk.iteOmega, d1, d2, ii]
        exact ⟨_, rfl, ex_refl _, by simp [k6Φ, upd]⟩
    case fin =>
      rintro t w4 hg hΦ
      have h1 := hΦ 1 (by decide)
      have h2' := hΦ 2 (by decide)
      have h9 := hΦ 9 (by decide)
      have h10 := hΦ 10 (by decide)
      simp only [k6Φ] at h1 h2' h9 h10
      obtain ⟨xa', xc', e46, ow⟩ := h9
      have hI4 := hI.on hg
      obtain ⟨c4, z4⟩ := hI4.head hil
      have hI5 := hI4.setRow (k := i) (r := ⟨xa', (without ((k : Int), g) (nth [] gr.ks i)).length, xc'⟩) hil (ow.base (size_ex hI.ex))
      simp only [putAll, List.take_succ_cons, List.take_zero, List.take_nil, Act.put]
      simp only [List.setIfInBounds_toArray, List.set_cons_succ, List.set_cons_zero, e46, h10]
      simp only [List.drop_succ_cons, List.drop_zero, List.drop_nil]
      clear hΦ hg h1 h2' h10 ow hI v0 v1 q0 q1 c0 z0 orow horow hlay
      go_wp2
      go_roundw
      case rel => exact ⟨i + 1, hs'.set i ⟨xa', (without ((k : Int), g) (nth [] gr.ks i)).length, xc'⟩, by omega, by go_num, hI5⟩
      case measure => simp [intOf]; omega

end Go.Proofs.Ytmmflpjfgapaaaa
