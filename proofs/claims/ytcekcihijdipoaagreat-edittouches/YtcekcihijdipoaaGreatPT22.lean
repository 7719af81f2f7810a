/- A pack of texts: NdP3. -/
import Derived.Laws.Externs
import Derived.Test.YtcekcihijdipoaaGreatPT18
import Derived.Test.YtcekcihijdipoaaGreatPT14
import Derived.Test.YtcekcihijdipoaaGreatPT21
import Derived.Test.YtcekcihijdipoaaGreatPT11
namespace Go.Proofs.YtcekcihijdipoaaGreat

section


open Go.RowKit Go.ChangeShapes Go.WideShapes Go.ChangeAt

set_option linter.unusedSimpArgs false

set_option linter.unusedVariables false

attribute [local go_sem] plus_size plus_drew dn_set dn_alloc dn_plus plus_dn cell_plus frozen_plus set_plus cell_alloc frozen_alloc set_alloc

theorem GrOwn.upd {T w w' : World} {ao : Option Addr} {n cap kb kn kcap : Nat} {hs : List RH} {g : Gr} {k : Nat} {gb : Option Nat} {r : RH} {l : List (Int × Int)} (h : GrOwn T w ao n cap (some ⟨kb, 0, none⟩) kn kcap hs g) (hap : Apart hs) (hk : k < kn) (hg : w.grownBy w' gb) (hgb : ∀ q, gb = some q → (nth dRH hs k).ao = some ⟨q, 0, none⟩) (o : Own 32 2 f2 T w' r.ao r.n r.cap l) :
    GrOwn T (w'.setCell ⟨kb, k, none⟩ (.slice r.ao r.n r.cap)) ao n cap (some ⟨kb, 0, none⟩) kn kcap (hs.set k r) ⟨g.sl, g.ks.set k l⟩ := by
  have hl := h.kh.1
  have hkl := h.kl
  have hty : ∀ q, gb = some q → ∃ cur, w.heap[q]? = some (.cells cur 32) := fun q hq => by
    have hr := h.row k (by omega)
    rw [hgb q hq] at hr
    obtain ⟨cur, hb, _⟩ := own_cur hr
    exact ⟨cur, hb⟩
  have kh' : Own 88 1 fR T w' (some ⟨kb, 0, none⟩) kn kcap hs := by
    cases hq : gb with
    | none => exact own_grown h.kh (hq ▸ hg) (fun a _ => by simp)
    | some q =>
      obtain ⟨cur, hb⟩ := hty q hq
      exact own_grown_ty h.kh (hq ▸ hg) hb (by decide)
  have sl' : Own 86 2 fS T w' ao n cap g.sl := by
    cases hq : gb with
    | none => exact own_grown h.sl (hq ▸ hg) (fun a _ => by simp)
    | some q =>
      obtain ⟨cur, hb⟩ := hty q hq
      exact own_grown_ty h.sl (hq ▸ hg) hb (by decide)
  obtain ⟨cur, hb, _⟩ := own_cur kh'
  have hs1 := kh'.set_self (u := .slice r.ao r.n r.cap) k 0 r dRH hk fR_c (by decide) rfl
  rw [Nat.mul_one, Nat.add_zero] at hs1
  refine ⟨sl'.set_other hb (by decide), hs1, by show (hs.set k r).length = (g.ks.set k l).length; rw [List.length_set, List.length_set]; exact h.len, fun j hj => ?_⟩
  rw [List.length_set] at hj
  show Own 32 2 f2 T _ _ _ _ (nth [] (g.ks.set k l) j)
  rw [nth_set' (by omega), nth_set' (by omega)]
  by_cases e : j = k
  · rw [if_pos e, if_pos e]
    exact o.set_other hb (by decide)
  · rw [if_neg e, if_neg e]
    refine (own_grown (h.row j hj) hg fun a ha => ?_).set_other hb (by decide)
    intro e2
    cases hq : gb with
    | none => rw [hq] at e2; cases e2
    | some q =>
      rw [hq] at e2
      cases e2
      exact hap j k hj (by omega) e a _ ha (hgb _ hq) rfl

def ulS (i : Nat) : List Nat := match i with | 0 => [34] | 1 => [35] | 2 => [36] | 3 => [37] | 4 => [38] | 5 => [39] | 6 => [40] | 7 => [41] | 8 => [42] | 9 => [43] | 10 => [44] | 11 => [45] | 12 => [46] | 13 => [47] | 14 => [48] | _ => []

def ulΦ (T : World) (pl kb kn kc ph k gb rn rc p : Nat) (l : List (Int × Int)) (i : Nat) (t : Nat → Value) (D : Nat → Bool) (w' : World) : Prop := match i with
  | 0 => t 34 = .pointer (some ⟨pl, 1, none⟩)
  | 1 => t 35 = .slice (some ⟨kb, 0, none⟩) kn kc
  | 2 => t 36 = .pointer (some ⟨ph, 0, none⟩)
  | 3 => t 37 = .int .i64 (k : Int)
  | 4 => t 38 = .pointer (some ⟨pl, 1, none⟩)
  | 5 => t 39 = .slice (some ⟨kb, 0, none⟩) kn kc
  | 6 => t 40 = .pointer (some ⟨ph, 0, none⟩)
  | 7 => t 41 = .int .i64 (k : Int)
  | 8 => t 42 = .pointer (some ⟨kb, k, none⟩)
  | 9 => t 43 = .slice (some ⟨gb, 0, none⟩) rn rc
  | 10 => t 44 = .int .i64 (p : Int)
  | 11 => t 45 = .int .i64 (p : Int)
  | 12 => t 46 = .int .i64 ((p : Int) + 1)
  | 13 => t 47 = .slice (some ⟨gb, 0, none⟩) (rn - 1) rc ∧ Own 32 2 f2 T w' (some ⟨gb, 0, none⟩) (rn - 1) rc (cut l p) ∧ D 13 = true
  | 14 => t 48 = .pointer (some ⟨kb, k, none⟩)
  | _ => True

theorem ulΦ_mono (T : World) (pl kb kn kc ph k gb rn rc p : Nat) (l : List (Int × Int)) {gq : Option Nat} (hGQ : gq = some gb ∨ gq = none) : ∀ i t t' D w D' w', ulΦ T pl kb kn kc ph k gb rn rc p l i t D w → (∀ s ∈ ulS i, t' s = t s) → Turn 13 gq D w D' w' → ulΦ T pl kb kn kc ph k gb rn rc p l i t' D' w' := by
  intro i t t' D w D' w' h hs' ht
  match i with
  | 0 => exact (hs' 34 (by decide)).trans h
  | 1 => exact (hs' 35 (by decide)).trans h
  | 2 => exact (hs' 36 (by decide)).trans h
  | 3 => exact (hs' 37 (by decide)).trans h
  | 4 => exact (hs' 38 (by decide)).trans h
  | 5 => exact (hs' 39 (by decide)).trans h
  | 6 => exact (hs' 40 (by decide)).trans h
  | 7 => exact (hs' 41 (by decide)).trans h
  | 8 => exact (hs' 42 (by decide)).trans h
  | 9 => exact (hs' 43 (by decide)).trans h
  | 10 => exact (hs' 44 (by decide)).trans h
  | 11 => exact (hs' 45 (by decide)).trans h
  | 12 => exact (hs' 46 (by decide)).trans h
  | 13 => exact ⟨(hs' 47 (by decide)).trans h.1, own_turn h.2.1 ht h.2.2, ht.mono h.2.2⟩
  | 14 => exact (hs' 48 (by decide)).trans h
  | i + 15 => trivial

theorem lay_cell {w : World} {kb kn k : Nat} {hs : List RH} (h : Lay fR w (some ⟨kb, 0, none⟩) kn hs) (hk : k < kn) : w.cell? ⟨kb, k, none⟩ = some (.slice (nth dRH hs k).ao (nth dRH hs k).n (nth dRH hs k).cap) := by
  have h1 := cellR h.len (lay_at h (by omega)) hk
  rwa [Nat.zero_add] at h1

theorem own_turn' {α : Type} {f : α → List Value} {d : Nat} {gb : Option Nat} {D D' : Nat → Bool} {T w w' : World} {g n cap c : Nat} {l : List α} {e : TypeId} (h : Own e c f T w (some ⟨g, 0, none⟩) n cap l) (ht : Turn d gb D w D' w') (hne : some g ≠ gb) : Own e c f T w' (some ⟨g, 0, none⟩) n cap l :=
  own_grown h ht.grow (fun a ha => by cases ha; exact hne)

set_option maxRecDepth 100000 in
set_option maxHeartbeats 8000000 in
theorem nunlink_calls (ao : Option Addr) (n cap : Nat) (ko : Option Addr) (kn kcap : Nat) (hs : List RH) (gr : Gr) (s g pos : Int) (w : World) (hG : GrAt w ao n ko kn hs gr) :
    Calls Tryz.prog 123 #[.agg #[.slice ao n cap, .slice ko kn kcap], .agg #[.int .i64 s, .int .i64 g], .int .i64 pos] w fun e w' => RetG w (unlinkRes gr (s, g) pos) (unlinkErr gr (s, g) pos) e w' := by
  have hlen := hG.kl
  have hkh := hG.kh.len
  have hsl := hG.sl.len
  have m2 := hG.n2
  rcases ask_err gr (s, g) (s, g) with he | he | he
  rotate_left
  · have hu : unlinkErr gr (s, g) pos = 8 := by rw [unlinkErr, he, if_neg (by decide)]
    rw [hu, show unlinkRes gr (s, g) pos = zeroG by rw [unlinkRes, hu]; rfl]
    go_enter Tryz.func123, Tryz.ntmps123
    go_wp2_with (go_at_call 162; refine (plus_post (ref1_is he (hG.ex sk0) (by simp only [blk_alloc]; simp [go_sem, ↓IntWalk.iteOmega]))).mono ?_; rintro e w' ⟨rfl, nx, rfl⟩)
    exact bodyPost_ret (v := .tuple #[.agg #[.slice none 0 0, .slice none 0 0], .int .i64 8]) (by simp [results, Tryz.results123, go_sem, ↓IntWalk.iteOmega]) rfl ⟨none, 0, none, 0, [], rfl, sk0, own_zero⟩
  · have hu : unlinkErr gr (s, g) pos = 50 := by rw [unlinkErr, he, if_neg (by decide)]
    rw [hu, show unlinkRes gr (s, g) pos = zeroG by rw [unlinkRes, hu]; rfl]
    go_enter Tryz.func123, Tryz.ntmps123
    go_wp2_with (go_at_call 162; refine (plus_post (ref1_is he (hG.ex sk0) (by simp only [blk_alloc]; simp [go_sem, ↓IntWalk.iteOmega]))).mono ?_; rintro e w' ⟨rfl, nx, rfl⟩)
    exact bodyPost_ret (v := .tuple #[.agg #[.slice none 0 0, .slice none 0 0], .int .i64 50]) (by simp [results, Tryz.results123, go_sem, ↓IntWalk.iteOmega]) rfl ⟨none, 0, none, 0, [], rfl, sk0, own_zero⟩
  obtain ⟨hok, hh, _⟩ := ask_ok he
  have hl := held_lt hh
  simp only at hl
  obtain ⟨_, h2, h3, _⟩ := gr_parts hok
  obtain ⟨k, rfl⟩ : ∃ k : Nat, s = (k : Int) := ⟨s.toNat, by omega⟩
  rw [Int.toNat_natCast] at hl
  have hkl : k < kn := by omega
  have ik : (k : Int) < (kn : Int) := by omega
  obtain ⟨kg, kf, rfl, hkg, hkc⟩ := hG.kh.some (by omega)
  have c1 := cellR hkh hkc hkl
  have hrow := hG.row k (by omega)
  have hrl := hrow.len
  have hn3 := hG.n3 k (by omega)
  have hra : rowAt gr ((k : Int), g) = nth [] gr.ks k := by rw [rowAt]; show nth [] gr.ks ((k : Int)).toNat = _; rw [Int.toNat_natCast]
  have hue : unlinkErr gr ((k : Int), g) pos = if 0 ≤ pos ∧ pos < ((nth dRH hs k).n : Int) then 0 else 2 := by rw [unlinkErr, he, if_pos rfl, hra, hrl]
  by_cases hp0 : pos < 0
  · rw [if_neg (by omega)] at hue
    rw [hue, show unlinkRes gr ((k : Int), g) pos = zeroG by rw [unlinkRes, hue]; rfl]
    go_enter Tryz.func123, Tryz.ntmps123
    go_wp2_with (go_at_call 162; refine (plus_post (ref1_is he (hG.ex sk0) (by simp only [blk_alloc]; simp [go_sem, ↓IntWalk.iteOmega]))).mono ?_; rintro e w' ⟨rfl, nx, rfl⟩)
    exact bodyPost_ret (v := .tuple #[.agg #[.slice none 0 0, .slice none 0 0], .int .i64 2]) (by simp [results, Tryz.results123, go_sem, ↓IntWalk.iteOmega]) rfl ⟨none, 0, none, 0, [], rfl, sk0, own_zero⟩
  have dp0 := decide_eq_false hp0
  obtain ⟨p, rfl⟩ : ∃ p : Nat, pos = (p : Int) := ⟨pos.toNat, by omega⟩
  by_cases hp1 : (nth dRH hs k).n ≤ p
  · have ip1 : ((nth dRH hs k).n : Int) ≤ (p : Int) := by omega
    rw [if_neg (by omega)] at hue
    rw [hue, show unlinkRes gr ((k : Int), g) p = zeroG by rw [unlinkRes, hue]; rfl]
    go_enter Tryz.func123, Tryz.ntmps123
    go_wp2_with (go_at_call 162; refine (plus_post (ref1_is he (hG.ex sk0) (by simp only [blk_alloc]; simp [go_sem, ↓IntWalk.iteOmega]))).mono ?_; rintro e w' ⟨rfl, nx, rfl⟩)
    exact bodyPost_ret (v := .tuple #[.agg #[.slice none 0 0, .slice none 0 0], .int .i64 2]) (by simp [results, Tryz.results123, go_sem, ↓IntWalk.iteOmega]) rfl ⟨none, 0, none, 0, [], rfl, sk0, own_zero⟩
  have ip1 : ¬ ((nth dRH hs k).n : Int) ≤ (p : Int) := by omega
  have dp1 := decide_eq_false ip1
  rw [if_pos (by omega)] at hue
  have hres : unlinkRes gr ((k : Int), g) p = ⟨gr.sl, gr.ks.set k (cut (nth [] gr.ks k) p)⟩ := by
    rw [unlinkRes, hue, if_pos rfl, unlinkG, hra]
    show Gr.mk gr.sl (gr.ks.set ((k : Int)).toNat (cut (nth [] gr.ks k) ((p : Int)).toNat)) = _
    rw [Int.toNat_natCast, Int.toNat_natCast]
  rw [hue, hres]
  go_enter Tryz.func123, Tryz.ntmps123
  go_upto_region 7 with (first | (go_at_call 162; refine (plus_post (ref1_is he (hG.ex sk0) (by simp only [blk_alloc]; simp [go_sem, ↓IntWalk.iteOmega]))).mono ?_; rintro e w' ⟨rfl, nx, rfl⟩) | (go_at_call 39; refine (ntwin2_calls _ _ _ _ _ _ hs gr _ (hG.ex sk0)).mono ?_; rintro e w1 ⟨a1, c1', ka, kc, hs1, rfl, hw1, og, hap⟩))
  have z1 := size_ex hw1
  simp [go_sem] at z1
  have hx2 : ∃ y, w1.alloc (.cells #[.slice a1 n c1', .slice ka kn kc] 27) = plus w y := sn0
  have bL0 : (w1.alloc (.cells #[.slice a1 n c1', .slice ka kn kc] 27)).heap[w1.heap.size]? = some (.cells #[.slice a1 n c1', .slice ka kn kc] 27) := by rw [blk_alloc, if_pos rfl]
  have bH0 : (w1.alloc (.cells #[.slice a1 n c1', .slice ka kn kc] 27)).heap[w.heap.size + 1]? = some (.cells #[.int .i64 (k : Int), .int .i64 g] 32) := blk_ex (w := w1) (ex_alloc (ex_refl _)) (blk_ex hw1 (blk_ex (ex_plus (ex_refl _)) (by simp only [blk_alloc]; simp [go_sem, ↓IntWalk.iteOmega])))
  have bR0 : (w1.alloc (.cells #[.slice a1 n c1', .slice ka kn kc] 27)).heap[w.heap.size + 1 + 1]? = some (.cells #[.slice none 0 0, .slice none 0 0] 27) := blk_ex (w := w1) (ex_alloc (ex_refl _)) (blk_ex hw1 (blk_ex (ex_plus (ex_refl _)) (by simp only [blk_alloc]; simp [go_sem, ↓IntWalk.iteOmega])))
  have og2 := (og.ex (ex_alloc (o := (.cells #[.slice a1 n c1', .slice ka kn kc] 27)) (ex_refl w1)))
  have zT : w.heap.size + 1 + 1 + 1 + 1 ≤ (plus (((((w.alloc (.cells #[.slice ao n cap, .slice (some ⟨kg, kf, none⟩) kn kcap] 27)).alloc (.cells #[.int .i64 (k : Int), .int .i64 g] 32)).alloc (.cells #[.slice none 0 0, .slice none 0 0] 27)).alloc (.cells #[.int .i64 (k : Int), .int .i64 g] 32))) nx).heap.size := by rw [plus_size]; simp [go_sem]
  clear og hw1
  generalize hW2 : w1.alloc (.cells #[.slice a1 n c1', .slice ka kn kc] 27) = w2 at *
  generalize hWT : plus (((((w.alloc (.cells #[.slice ao n cap, .slice (some ⟨kg, kf, none⟩) kn kcap] 27)).alloc (.cells #[.int .i64 (k : Int), .int .i64 g] 32)).alloc (.cells #[.slice none 0 0, .slice none 0 0] 27)).alloc (.cells #[.int .i64 (k : Int), .int .i64 g] 32))) nx = T at *
  clear hW2 hWT
  obtain ⟨kb, cu, rfl, hkb, hkbb, _⟩ := og2.kh.blk (by omega)
  have okh := og2.kh
  have hl2 := okh.1
  have orow0 := og2.row k (by omega)
  have hrn : (nth dRH hs1 k).n = (nth dRH hs k).n := orow0.1.symm.trans hrl
  generalize hre : nth dRH hs1 k = r at *
  obtain ⟨ra, rn, rc⟩ := r
  simp only at hrn orow0
  subst hrn
  obtain ⟨gb, cg, rfl, hgb, hgbb, _⟩ := orow0.blk (by omega)
  have nL : w1.heap.size ≠ gb := fun e => by rw [e, hgbb] at bL0; cases bL0
  have nH : w.heap.size + 1 ≠ gb := by omega
  have nR : w.heap.size + 1 + 1 ≠ gb := by omega
  have nK : kb ≠ gb := fun e => by rw [e, hgbb] at hkbb; cases hkbb
  have orow := orow0
  have iw1 : IntKind.i64.wrap ((p : Int) + 1) = (p : Int) + 1 := wrap_le (by omega)
  refine region_relD 15 ulS (ulΦ T w1.heap.size kb kn kc (w.heap.size + 1) k gb (nth dRH hs k).n rc p (nth [] gr.ks k)) (Turn 13 (some gb)) turn_trans (turn_draw _) (by kernel_rfl) (by kernel_rfl) (by decide) (ulΦ_mono T w1.heap.size kb kn kc (w.heap.size + 1) k gb (nth dRH hs k).n rc p (nth [] gr.ks k) (.inl rfl)) ?steps ?fin
  case steps =>
    refine ⟨?_, ?_, ?_, ?_, ?_, ?_, ?_, ?_, ?_, ?_, ?_, ?_, ?_, ?_, ?_, trivial⟩
    · intro a D w' hg hfree hdeep hD
      have f9_ := hfree 9 (by kernel_rfl)
      simp only [ulΦ, got] at f9_
      simp [go_sem] at f9_
      unfold Oper.wp
      simp [go_sem, execOp, Act.eval, ↓IntWalk.iteOmega, f9_]
      exact ⟨_, rfl, turn_grow (ex_refl _), by simp [ulΦ, upd]⟩
    · intro a D w' hg hfree hdeep hD
      have d0 := hdeep 0 (by kernel_rfl)
      simp only [ulΦ, got] at d0
      simp [go_sem] at d0
      have c1_ := cell_blk (i := 1) (turn_blk hg (fun e => nL (by cases e; rfl)) bL0) rfl
      unfold Oper.wp
      simp [go_sem, execOp, Act.eval, ↓IntWalk.iteOmega, d0, c1_]
      exact ⟨_, rfl, turn_grow (ex_refl _), by simp [ulΦ, upd]⟩
    · intro a D w' hg hfree hdeep hD
      have f4_ := hfree 4 (by kernel_rfl)
      simp only [ulΦ, got] at f4_
      simp [go_sem] at f4_
      unfold Oper.wp
      simp [go_sem, execOp, Act.eval, ↓IntWalk.iteOmega, f4_]
      exact ⟨_, rfl, turn_grow (ex_refl _), by simp [ulΦ, upd]⟩
    · intro a D w' hg hfree hdeep hD
      have d2 := hdeep 2 (by kernel_rfl)
      simp only [ulΦ, got] at d2
      simp [go_sem] at d2
      have c1_ := cell_blk (i := 0) (turn_blk hg (fun e => nH (by cases e; rfl)) bH0) rfl
      unfold Oper.wp
      simp [go_sem, execOp, Act.eval, ↓IntWalk.iteOmega, d2, c1_]
      exact ⟨_, rfl, turn_grow (ex_refl _), by simp [ulΦ, upd]⟩
    · intro a D w' hg hfree hdeep hD
      have f9_ := hfree 9 (by kernel_rfl)
      simp only [ulΦ, got] at f9_
      simp [go_sem] at f9_
      unfold Oper.wp
      simp [go_sem, execOp, Act.eval, ↓IntWalk.iteOmega, f9_]
      exact ⟨_, rfl, turn_grow (ex_refl _), by simp [ulΦ, upd]⟩
    · intro a D w' hg hfree hdeep hD
      have d4 := hdeep 4 (by kernel_rfl)
      simp only [ulΦ, got] at d4
      simp [go_sem] at d4
      have c1_ := cell_blk (i := 1) (turn_blk hg (fun e => nL (by cases e; rfl)) bL0) rfl
      unfold Oper.wp
      simp [go_sem, execOp, Act.eval, ↓IntWalk.iteOmega, d4, c1_]
      exact ⟨_, rfl, turn_grow (ex_refl _), by simp [ulΦ, upd]⟩
    · intro a D w' hg hfree hdeep hD
      have f4_ := hfree 4 (by kernel_rfl)
      simp only [ulΦ, got] at f4_
      simp [go_sem] at f4_
      unfold Oper.wp
      simp [go_sem, execOp, Act.eval, ↓IntWalk.iteOmega, f4_]
      exact ⟨_, rfl, turn_grow (ex_refl _), by simp [ulΦ, upd]⟩
    · intro a D w' hg hfree hdeep hD
      have d6 := hdeep 6 (by kernel_rfl)
      simp only [ulΦ, got] at d6
      simp [go_sem] at d6
      have c1_ := cell_blk (i := 0) (turn_blk hg (fun e => nH (by cases e; rfl)) bH0) rfl
      unfold Oper.wp
      simp [go_sem, execOp, Act.eval, ↓IntWalk.iteOmega, d6, c1_]
      exact ⟨_, rfl, turn_grow (ex_refl _), by simp [ulΦ, upd]⟩
    · intro a D w' hg hfree hdeep hD
      have d5 := hdeep 5 (by kernel_rfl)
      have d7 := hdeep 7 (by kernel_rfl)
      simp only [ulΦ, got] at d5 d7
      simp [go_sem] at d5 d7
      unfold Oper.wp
      simp [go_sem, execOp, Act.eval, ↓IntWalk.iteOmega, d5, d7, ik]
      exact ⟨_, rfl, turn_grow (ex_refl _), by simp [ulΦ, upd]⟩
    · intro a D w' hg hfree hdeep hD
      have d8 := hdeep 8 (by kernel_rfl)
      simp only [ulΦ, got] at d8
      simp [go_sem] at d8
      have ck := lay_cell (own_turn' okh hg (fun e => nK (by cases e; rfl))).lay hkl
      rw [hre] at ck
      unfold Oper.wp
      simp [go_sem, execOp, Act.eval, ↓IntWalk.iteOmega, d8, ck]
      exact ⟨_, rfl, turn_grow (ex_refl _), by simp [ulΦ, upd]⟩
    · intro a D w' hg hfree hdeep hD
      have f2_ := hfree 2 (by kernel_rfl)
      simp only [ulΦ, got] at f2_
      simp [go_sem] at f2_
      unfold Oper.wp
      simp [go_sem, execOp, Act.eval, ↓IntWalk.iteOmega, f2_]
      exact ⟨_, rfl, turn_grow (ex_refl _), by simp [ulΦ, upd]⟩
    · intro a D w' hg hfree hdeep hD
      have f2_ := hfree 2 (by kernel_rfl)
      simp only [ulΦ, got] at f2_
      simp [go_sem] at f2_
      unfold Oper.wp
      simp [go_sem, execOp, Act.eval, ↓IntWalk.iteOmega, f2_]
      exact ⟨_, rfl, turn_grow (ex_refl _), by simp [ulΦ, upd]⟩
    · intro a D w' hg hfree hdeep hD
      have d11 := hdeep 11 (by kernel_rfl)
      simp only [ulΦ, got] at d11
      simp [go_sem] at d11
      unfold Oper.wp
      simp [go_sem, execOp, Act.eval, ↓IntWalk.iteOmega, d11, iw1]
      exact ⟨_, rfl, turn_grow (ex_refl _), by simp [ulΦ, upd]⟩
    · intro a D w' hg hfree hdeep hD
      have d9 := hdeep 9 (by kernel_rfl)
      have d10 := hdeep 10 (by kernel_rfl)
      have d12 := hdeep 12 (by kernel_rfl)
      simp only [ulΦ, got] at d9 d10 d12
      simp [go_sem] at d9 d10 d12
      obtain ⟨x, rfl⟩ := turn_ahead hg hD
      unfold Oper.wp
      simp [go_sem, execOp, Act.eval, ↓IntWalk.iteOmega, d9, d10, d12]
      refine (delH T _ gb _ rc (nth [] gr.ks k) p (orow.ex ⟨x, rfl⟩) (by omega) (by omega)).mono ?_
      rintro e w1' ⟨rfl, hg1, o1⟩
      exact ⟨_, rfl, turn_do hg1 hD, by simp [upd], o1, also_self' 13⟩
    · intro a D w' hg hfree hdeep hD
      have d1 := hdeep 1 (by kernel_rfl)
      have d3 := hdeep 3 (by kernel_rfl)
      simp only [ulΦ, got] at d1 d3
      simp [go_sem] at d1 d3
      unfold Oper.wp
      simp [go_sem, execOp, Act.eval, ↓IntWalk.iteOmega, d1, d3, ik]
      exact ⟨_, rfl, turn_grow (ex_refl _), by simp [ulΦ, upd]⟩
  case fin =>
    rintro t D w9 hDa hg hΦ
    have r0 := hΦ 0 (by decide)
    have r1 := hΦ 1 (by decide)
    have r2 := hΦ 2 (by decide)
    have r3 := hΦ 3 (by decide)
    have r4 := hΦ 4 (by decide)
    have r5 := hΦ 5 (by decide)
    have r6 := hΦ 6 (by decide)
    have r7 := hΦ 7 (by decide)
    have r8 := hΦ 8 (by decide)
    have r9 := hΦ 9 (by decide)
    have r10 := hΦ 10 (by decide)
    have r11 := hΦ 11 (by decide)
    have r12 := hΦ 12 (by decide)
    have r14 := hΦ 14 (by decide)
    simp only [ulΦ] at r0 r1 r2 r3 r4 r5 r6 r7 r8 r9 r10 r11 r12 r14
    obtain ⟨r13, o9, hD9⟩ := hΦ 13 (by decide)
    simp only [putAll, List.take_succ_cons, List.take_zero, List.drop_succ_cons, List.drop_zero, r0, r1, r2, r3, r4, r5, r6, r7, r8, r9, r10, r11, r12, r13, r14]
    simp only [Act.put]
    simp only [List.setIfInBounds_toArray, List.set_cons_succ, List.set_cons_zero]
    clear hΦ r0 r1 r2 r3 r4 r5 r6 r7 r8 r9 r10 r11 r12 r13 r14
    have bK9 := turn_blk hg (fun e => nK (by cases e; rfl)) hkbb
    have ck9 := lay_cell (own_turn' okh hg (fun e => nK (by cases e; rfl))).lay hkl
    have zk9 := frozen_blk (i := k) bK9
    have lk9 := blk_lt bK9
    have og3 := og2.upd (r := ⟨(some ⟨gb, 0, none⟩), ((nth dRH hs k).n - 1), rc⟩) (l := cut (nth [] gr.ks k) p) hap hkl hg.grow (fun q hq => by cases hq; rw [hre]) o9
    have bL9 := turn_blk hg (fun e => nL (by cases e; rfl)) bL0
    have bR9 := turn_blk hg (fun e => nR (by cases e; rfl)) bR0
    have hx9 : ∃ y, w9 = plus w y := turn_ex hg hx2 (fun q hq => by cases hq; omega)
    have nKL : kb ≠ w1.heap.size := fun e => by rw [← e, hkbb] at bL0; cases bL0
    have nKR : kb ≠ w.heap.size + 1 + 1 := fun e => by rw [← e, hkbb] at bR0; cases bR0
    go_upto_region 8 with fail
    have bL10 : (w9.setCell ⟨kb, k, none⟩ (.slice (some ⟨gb, 0, none⟩) ((nth dRH hs k).n - 1) rc)).heap[w1.heap.size]? = some (.cells #[.slice a1 n c1', .slice (some ⟨kb, 0, none⟩) kn kc] 27) := (blk_set_ne nKL).trans bL9
    have bR10 : (w9.setCell ⟨kb, k, none⟩ (.slice (some ⟨gb, 0, none⟩) ((nth dRH hs k).n - 1) rc)).heap[w.heap.size + 1 + 1]? = some (.cells #[.slice none 0 0, .slice none 0 0] 27) := (blk_set_ne nKR).trans bR9
    have hx10 : ∃ y, w9.setCell ⟨kb, k, none⟩ (.slice (some ⟨gb, 0, none⟩) ((nth dRH hs k).n - 1) rc) = plus w y := ex_set_new hx9 (by omega)
    simp only at og3
    refine name_world (fun w' => GrOwn T w' a1 n c1' (some ⟨kb, 0, none⟩) kn kc (hs1.set k ⟨(some ⟨gb, 0, none⟩), ((nth dRH hs k).n - 1), rc⟩) ⟨gr.sl, gr.ks.set k (cut (nth [] gr.ks k) p)⟩ ∧ w'.heap[w1.heap.size]? = some (.cells #[.slice a1 n c1', .slice (some ⟨kb, 0, none⟩) kn kc] 27) ∧ w'.heap[w.heap.size + 1 + 1]? = some (.cells #[.slice none 0 0, .slice none 0 0] 27) ∧ ∃ y, w' = plus w y) ⟨og3, bL10, bR10, hx10⟩ ?_
    clear og3 bL10 bR10 hx10 bK9 ck9 zk9 lk9 bL9 bR9 hx9 hg o9 okh orow og2 bL0 bR0 hx2 hkbb
    rintro w4 ⟨og4, bL4, bR4, hx4⟩
    have q0 := cell_blk (i := 0) bL4 rfl
    have q1 := cell_blk (i := 1) bL4 rfl
    have s0 := cell_blk (i := 0) bR4 rfl
    have s1 := cell_blk (i := 1) bR4 rfl
    have y0 := frozen_blk (i := 0) bR4
    have y1 := frozen_blk (i := 1) bR4
    have lL4 := blk_lt bL4
    have lR4 := blk_lt bR4
    have og5 := (og4.set_other (i := 0) (u := .slice a1 n c1') bR4 (by decide) (by decide) (by decide)).set_other (i := 1) (u := .slice (some ⟨kb, 0, none⟩) kn kc) (blk_set_eq bR4) (by decide) (by decide) (by decide)
    have bR5 := blk_set_eq (i := 1) (u := .slice (some ⟨kb, 0, none⟩) kn kc) (blk_set_eq (i := 0) (u := .slice a1 n c1') bR4)
    have hx5 := ex_set_new (i := 1) (u := .slice (some ⟨kb, 0, none⟩) kn kc) (g := w.heap.size + 1 + 1) (ex_set_new (i := 0) (u := .slice a1 n c1') (g := w.heap.size + 1 + 1) hx4 (by omega)) (by omega)
    clear og4
    go_wp2
    generalize (w4.setCell ⟨w.heap.size + 1 + 1, 0, none⟩ (.slice a1 n c1')).setCell ⟨w.heap.size + 1 + 1, 1, none⟩ (.slice (some ⟨kb, 0, none⟩) kn kc) = w5 at *
    have t0 := cell_blk (i := 0) bR5 rfl
    have t1 := cell_blk (i := 1) bR5 rfl
    have hlk : (gr.ks.set k (cut (nth [] gr.ks k) p)).length = kn := by rw [List.length_set, hlen]
    have hpost : RetG w ⟨gr.sl, gr.ks.set k (cut (nth [] gr.ks k) p)⟩ 0 (.returned (.tuple #[.agg #[.slice a1 n c1', .slice (some ⟨kb, 0, none⟩) kn kc], .int .i64 0])) w5 := by
      refine ⟨a1, c1', some ⟨kb, 0, none⟩, kc, hs1.set k ⟨(some ⟨gb, 0, none⟩), ((nth dRH hs k).n - 1), rc⟩, ?_, hx5, ?_⟩
      · show Ending.returned (.tuple #[.agg #[.slice a1 n c1', .slice (some ⟨kb, 0, none⟩) kn kc], .int .i64 0]) = .returned (.tuple #[.agg #[.slice a1 gr.sl.length c1', .slice (some ⟨kb, 0, none⟩) (gr.ks.set k (cut (nth [] gr.ks k) p)).length kc], .int .i64 0])
        rw [hlk, hsl]
      · show GrOwn w w5 a1 gr.sl.length c1' (some ⟨kb, 0, none⟩) (gr.ks.set k (cut (nth [] gr.ks k) p)).length kc _ _
        rw [hlk, hsl]
        exact og5.base (by omega)
    exact bodyPost_ret (v := .tuple #[.agg #[.slice a1 n c1', .slice (some ⟨kb, 0, none⟩) kn kc], .int .i64 0]) (by simp [results, Tryz.results123, go_sem, t0, t1]) rfl hpost

end

/- What the parts of slices.Insert give of handles: append of a make, overlaps. -/
section

open Go.RowKit Go.ChangeShapes Go.WideShapes Go.ChangeAt

set_option linter.unusedSimpArgs false

set_option linter.unusedVariables false

attribute [local go_sem] plus_size plus_drew dn_set dn_alloc dn_plus plus_dn cell_plus frozen_plus set_plus cell_alloc frozen_alloc set_alloc

theorem run_append_makeH {w : World} {g i cap kk : Nat} (ty : TypeId) (olds : List Value) (hlo : olds.length = i * 2) (holds : ∀ j v, olds[j]? = some v → w.cell? ⟨g, 0 + j, none⟩ = some v) (hgt : cap < i + kk) (hk : i + kk ≤ 10000) (hk0 : 0 < kk) :
    (Builtin.append_ #[88, 3] ty #[.slice (some ⟨g, 0, none⟩) i cap, .int .i64 (kk : Int)]).run Tryz.prog w = .ok (.slice (some ⟨w.heap.size, 0, none⟩) (i + kk) (grownCap w (i + kk) cap 32))
      (w.drew.alloc (.cells (olds.toArray ++ Builtin.zeroCells #[.int .i64 0, .int .i64 0] kk ++ Builtin.zeroCells #[.int .i64 0, .int .i64 0] (grownCap w (i + kk) cap 32 - (i + kk))) 32)) := by
  obtain ⟨ti, hi, hz0, hz1, hz2⟩ := info_parts (show (Tryz.prog.info? 32).map (fun i => (i.zero, i.size, i.bytes)) = some (some (.agg #[.int .i64 0, .int .i64 0]), 2, 16) by kernel_rfl)
  have hn : ¬ (i + kk ≤ cap) := by omega
  have hw : IntKind.i64.wrap (kk : Int) = (kk : Int) := wrap_le (by omega)
  have h0 : ¬ ((kk : Int) < 0) := by omega
  have hb : ¬ (281474976710656 < (kk : Int) * 16) := by omega
  have h63' : ¬ (9223372036854775807 < ((i : Int) + (kk : Int))) := by omega
  have hfit : Builtin.nextslicecap (i + kk) cap * 16 ≤ 281474976710656 := growslice_fits hgt (by omega)
  have h48' : ¬ (281474976710656 < Builtin.nextslicecap (i + kk) cap * 16) := by omega
  have hfo := run_firstCells_some (P := Tryz.prog) w.drew 2 i ⟨g, 0, none⟩ i cap olds hlo (by intro j v hv; have hadd : (⟨g, 0, none⟩ : Addr).add j = ⟨g, 0 + j, none⟩ := (by unfold Addr.add; split <;> simp_all); rw [hadd]; exact holds j v hv)
  have hk0' : ¬ kk = 0 := by omega
  simp [Builtin.append_, run_underlying Tryz.underlying88, run_underlying Tryz.underlying3, sizeOf, typeInfo, zeroValue, hi, hz0, hz1, hz2, Builtin.lenOf, hn, hw, h0, hb, h63', h48', Question.forced, hfo, newRow, grownCap, asInt, asIntOf, Value.cells, hk0']
  intro h9
  omega

theorem run_overlaps {w : World} {q g o1 o2 n1 n2 c1 c2 : Nat} {a b : Array Value} {ta tb : TypeId} (hq : w.heap[q]? = some (.cells a ta)) (hg : w.heap[g]? = some (.cells b tb)) (hne : q ≠ g) : (callFunc 179 #[.slice (some ⟨q, o1, none⟩) n1 c1, .slice (some ⟨g, o2, none⟩) n2 c2]).run Tryz.prog w = .ok (.value (.bool false)) w := by
  rw [run_callFunc_extern (e := Extern.SlicesOverlaps.overlaps #[88, 88] #[4]) Tryz.func179 (by kernel_rfl) (by kernel_rfl) (by kernel_rfl) (by kernel_rfl)]
  obtain ⟨ti, hi, hz0, hz1, hz2⟩ := info_parts (show (Tryz.prog.info? 32).map (fun i => (i.zero, i.size, i.bytes)) = some (some (.agg #[.int .i64 0, .int .i64 0]), 2, 16) by kernel_rfl)
  have s1 : w.shape? q = some (ta, a.size) := by simp [World.shape?, hq]
  have s2 : w.shape? g = some (tb, b.size) := by simp [World.shape?, hg]
  have f1 : ∀ i, w.frozen? ⟨q, i, none⟩ = false := fun i => frozen_blk hq
  have f2 : ∀ i, w.frozen? ⟨g, i, none⟩ = false := fun i => frozen_blk hg
  have hne' : (q == g) = false := by rw [beq_eq_false_iff_ne]; exact hne
  have hu := Tryz.underlying88
  have pb : ∀ (d : TypeDesc) (f : TypeDesc → Sem Value), (Sem.bind (pure d) f) = f d := fun _ _ => rfl
  by_cases h0 : n1 = 0 ∨ n2 = 0
  · conv in (Extern.SlicesOverlaps.overlaps _ _ _) => whnf
    simp [Sem.run, Sem.bind, pb, hu, sizeOf, typeInfo, hi, hz1, h0, ← or_assoc, Result.andThen]
  · conv in (Extern.SlicesOverlaps.overlaps _ _ _) => whnf
    have h1 : ¬ n1 = 0 := fun e => h0 (.inl e)
    have h2 : ¬ n2 = 0 := fun e => h0 (.inr e)
    simp [Sem.run, Sem.bind, pb, hu, sizeOf, typeInfo, hi, hz1, h1, h2, f1, f2, s1, s2, hne, hne', noView, viewAt, mayBeOne, stringish, Result.andThen]

end

/- What slices.Insert gives of handles, one put in. -/
section

open Go.RowKit Go.ChangeShapes Go.WideShapes Go.ChangeAt

set_option linter.unusedSimpArgs false

set_option linter.unusedVariables false

attribute [local go_sem] plus_size plus_drew dn_set dn_alloc dn_plus plus_dn cell_plus frozen_plus set_plus cell_alloc frozen_alloc set_alloc

section

variable {X A V B : List Value} {i n C : Nat}

theorem ins_new (hA : X.take (i * 2) = A) (hX : X.length = C * 2) (hC : n + 1 ≤ C) (hi : i ≤ n) (hV : V.length = 2) (hB : B.length = (n - i) * 2) :
    (((X.take (i * 2) ++ V ++ X.drop (i * 2 + V.length)).take ((i + 1) * 2) ++ B ++ (X.take (i * 2) ++ V ++ X.drop (i * 2 + V.length)).drop ((i + 1) * 2 + B.length)).take ((n + 1) * 2)) = A ++ V ++ B ∧ ((X.take (i * 2) ++ V ++ X.drop (i * 2 + V.length)).take ((i + 1) * 2) ++ B ++ (X.take (i * 2) ++ V ++ X.drop (i * 2 + V.length)).drop ((i + 1) * 2 + B.length)).length = C * 2 := by
  have hAl : A.length = i * 2 := by rw [← hA, List.length_take]; omega
  rw [hA]
  have e1 : (A ++ V ++ X.drop (i * 2 + V.length)).take ((i + 1) * 2) = A ++ V := by
    rw [List.take_append_of_le_length (by rw [List.length_append]; omega)]
    exact List.take_of_length_le (by rw [List.length_append]; omega)
  rw [e1]
  refine ⟨?_, ?_⟩
  · rw [List.take_append_of_le_length (by rw [List.length_append, List.length_append]; omega)]
    exact List.take_of_length_le (by rw [List.length_append, List.length_append]; omega)
  · simp only [List.length_append, List.length_drop]
    omega

theorem ins_in (hA : X.take (i * 2) = A) (hX : X.length = C * 2) (hC : n + 1 ≤ C) (hi : i ≤ n) (hV : V.length = 2) (hB : B.length = (n - i) * 2) :
    (((X.take ((i + 1) * 2) ++ B ++ X.drop ((i + 1) * 2 + B.length)).take (i * 2) ++ V ++ (X.take ((i + 1) * 2) ++ B ++ X.drop ((i + 1) * 2 + B.length)).drop (i * 2 + V.length)).take ((n + 1) * 2)) = A ++ V ++ B ∧ ((X.take ((i + 1) * 2) ++ B ++ X.drop ((i + 1) * 2 + B.length)).take (i * 2) ++ V ++ (X.take ((i + 1) * 2) ++ B ++ X.drop ((i + 1) * 2 + B.length)).drop (i * 2 + V.length)).length = C * 2 := by
  have hAl : A.length = i * 2 := by rw [← hA, List.length_take]; omega
  have hT : (X.take ((i + 1) * 2)).length = (i + 1) * 2 := by rw [List.length_take]; omega
  have e1 : (X.take ((i + 1) * 2) ++ B ++ X.drop ((i + 1) * 2 + B.length)).take (i * 2) = A := by
    rw [List.append_assoc, List.take_append_of_le_length (by omega), List.take_take, Nat.min_eq_left (by omega)]
    exact hA
  have e2 : (X.take ((i + 1) * 2) ++ B ++ X.drop ((i + 1) * 2 + B.length)).drop (i * 2 + V.length) = B ++ X.drop ((i + 1) * 2 + B.length) := by
    rw [List.append_assoc, show i * 2 + V.length = (X.take ((i + 1) * 2)).length by omega, List.drop_left]
  rw [e1, e2]
  refine ⟨?_, ?_⟩
  · rw [← List.append_assoc, List.take_append_of_le_length (by rw [List.length_append, List.length_append]; omega)]
    exact List.take_of_length_le (by rw [List.length_append, List.length_append]; omega)
  · simp only [List.length_append, List.length_drop]
    omega

end

theorem flat_put (l : List (Int × Int)) (i : Nat) (c : Int × Int) : (put l i c).flatMap f2 = (l.take i).flatMap f2 ++ f2 c ++ (l.drop i).flatMap f2 := by
  rw [put, List.flatMap_append, List.flatMap_cons, List.append_assoc]

theorem blk_da (w : World) (o : Obj) (g : Nat) : (w.drew.alloc o).heap[g]? = if g = w.heap.size then some o else w.heap[g]? := blk_alloc w.drew o g

theorem grown_past {w w1 w2 : World} {r : Option Nat} {k : Nat} (h1 : w.grownBy w1 r) (h2 : w1.grownBy w2 (some k)) (hk : w.heap.size ≤ k) : w.grownBy w2 r :=
  ⟨h2.os.trans h1.os, h2.tape.trans h1.tape, h2.output.trans h1.output, Nat.le_trans h1.size h2.size, fun j hj hne => (h2.block j (Nat.lt_of_lt_of_le hj h1.size) (fun e => by cases e; omega)).trans (h1.block j hj hne)⟩

def RetI (T w : World) (ao : Option Addr) (n cap : Nat) (l : List (Int × Int)) (e : Ending) (w' : World) : Prop := ∃ ao' cap', e = .returned (.slice ao' (n + 1) cap') ∧ w.grownBy w' (Value.ownBlock (.slice ao n cap)) ∧ Own 32 2 f2 T w' ao' (n + 1) cap' l

set_option maxRecDepth 100000 in
set_option maxHeartbeats 4000000 in
theorem insN (T w : World) (q cq : Nat) (c d : Int) (hT : ∃ y, w = plus T y) (hq : w.heap[q]? = some (.cells #[.int .i64 c, .int .i64 d] 32)) :
    Calls Tryz.prog 163 #[.slice none 0 0, .int .i64 ((0 : Nat) : Int), .slice (some ⟨q, 0, none⟩) 1 cq] w fun e w' => RetI T w none 0 0 [(c, d)] e w' := by
  go_enter Tryz.func163, Tryz.ntmps163
  go_wp2_with (at_builtin; (refine wpList_append_lay2 (T := T) (l := []) rfl _ _ rfl kinH f2_c f2_1 rfl hT own_nil rfl (lay_one hq) (by omega) (by decide) ?_; intro ao' cap' w1 o1 hx1 hg1))
  go_ret
  exact ⟨ao', cap', rfl, hg1, o1⟩

set_option maxRecDepth 100000 in
set_option maxHeartbeats 4000000 in
theorem insA (T w : World) (g n cap : Nat) (l : List (Int × Int)) (q cq : Nat) (c d : Int) (hT : ∃ y, w = plus T y) (h : Own 32 2 f2 T w (some ⟨g, 0, none⟩) n cap l) (hn : n ≤ 1000) (hq : w.heap[q]? = some (.cells #[.int .i64 c, .int .i64 d] 32)) :
    Calls Tryz.prog 163 #[.slice (some ⟨g, 0, none⟩) n cap, .int .i64 (n : Int), .slice (some ⟨q, 0, none⟩) 1 cq] w fun e w' => RetI T w (some ⟨g, 0, none⟩) n cap (l ++ [(c, d)]) e w' := by
  have hcap := h.cap_le
  have i1 : (n : Int) ≤ (cap : Int) := by omega
  by_cases hc : cap = n
  · subst hc
    go_enter Tryz.func163, Tryz.ntmps163
    go_wp2_with (at_builtin; (refine wpList_append_lay2 (T := T) rfl _ _ rfl kinH f2_c f2_1 rfl hT h rfl (lay_one hq) (by omega) (by decide) ?_; intro ao' cap' w1 o1 hx1 hg1))
    go_ret
    exact ⟨ao', cap', rfl, hg1, o1⟩
  · have hc' : ¬ n = cap := fun e => hc e.symm
    go_enter Tryz.func163, Tryz.ntmps163
    go_wp2_with (at_builtin; (refine wpList_append_lay2 (T := T) rfl _ _ rfl kinH f2_c f2_1 rfl hT h rfl (lay_one hq) (by omega) (by decide) ?_; intro ao' cap' w1 o1 hx1 hg1))
    go_ret
    exact ⟨ao', cap', rfl, hg1, o1⟩

def ibS (i : Nat) : List Nat := match i with | 0 => [46] | 1 => [47] | 2 => [48] | 3 => [49] | 4 => [50] | 5 => [51] | 6 => [52] | 7 => [53] | _ => []

def ibΦ (g q2 ix n cap C : Nat) (i : Nat) (t : Nat → Value) (w' : World) : Prop := match i with
  | 0 => t 46 = .slice (some ⟨q2, 0, none⟩) (n + 1) C
  | 1 => t 47 = .int .i64 (ix : Int)
  | 2 => t 48 = .int .i64 1
  | 3 => t 49 = .int .i64 ((ix : Int) + 1)
  | 4 => t 50 = .slice (some ⟨q2, (ix + 1) * 2, none⟩) (n - ix) (C - (ix + 1))
  | 5 => t 51 = .slice (some ⟨g, 0, none⟩) n cap
  | 6 => t 52 = .int .i64 (ix : Int)
  | 7 => t 53 = .slice (some ⟨g, ix * 2, none⟩) (n - ix) (cap - ix)
  | _ => True

theorem ibΦ_mono (g q2 ix n cap C : Nat) : ∀ i t t' w' x, ibΦ g q2 ix n cap C i t w' → (∀ s ∈ ibS i, t' s = t s) → ibΦ g q2 ix n cap C i t' (plus w' x) := by
  intro i t t' w' x h hs'
  match i with
  | 0 => exact (hs' 46 (by decide)).trans h
  | 1 => exact (hs' 47 (by decide)).trans h
  | 2 => exact (hs' 48 (by decide)).trans h
  | 3 => exact (hs' 49 (by decide)).trans h
  | 4 => exact (hs' 50 (by decide)).trans h
  | 5 => exact (hs' 51 (by decide)).trans h
  | 6 => exact (hs' 52 (by decide)).trans h
  | 7 => exact (hs' 53 (by decide)).trans h
  | i + 8 => trivial

set_option maxRecDepth 100000 in
set_option maxHeartbeats 4000000 in
theorem insB (T w : World) (g n : Nat) (l : List (Int × Int)) (i q cq : Nat) (c d : Int) (hT : ∃ y, w = plus T y) (h : Own 32 2 f2 T w (some ⟨g, 0, none⟩) n n l) (hn : n ≤ 1000) (hi : i < n) (hq : w.heap[q]? = some (.cells #[.int .i64 c, .int .i64 d] 32)) :
    Calls Tryz.prog 163 #[.slice (some ⟨g, 0, none⟩) n n, .int .i64 (i : Int), .slice (some ⟨q, 0, none⟩) 1 cq] w fun e w' => RetI T w (some ⟨g, 0, none⟩) n n (put l i (c, d)) e w' := by
  have hl := h.1
  obtain ⟨cur, hb, hs, ht, hTg, hnc, hmx⟩ := own_cur h
  have hTs := size_ex hT
  have hqs := blk_lt hq
  have hgs := blk_lt hb
  have dn : ((i : Int) == (n : Int)) = false := by rw [beq_eq_false_iff_ne]; omega
  have i1 : (i : Int) ≤ (n : Int) := by omega
  have i2 : (0 : Int) ≤ (i : Int) := by omega
  have i3 : ¬ n = i := by omega
  have i4 : ¬ i = n := by omega
  have iw : IntKind.i64.wrap ((n : Int) + 1) = (n : Int) + 1 := wrap_le (by omega)
  have iw2 : IntKind.i64.wrap ((n : Int) + 1 - (i : Int)) = ((n + 1 - i : Nat) : Int) := by rw [wrap_le (by omega)]; omega
  have iw1 : IntKind.i64.wrap ((i : Int) + 1) = (i : Int) + 1 := wrap_le (by omega)
  have gt : (n : Int) < (n : Int) + 1 := by omega
  have hF : (l.flatMap f2).take (i * 2) = (l.take i).flatMap f2 := flat_take f2_c l i (by omega)
  have hAl : ((l.take i).flatMap f2).length = i * 2 := by rw [flat_length f2_c, List.length_take]; omega
  have hr := run_append_makeH (w := w) (g := g) (i := i) (cap := n) (kk := n + 1 - i) 88 ((l.take i).flatMap f2) hAl (fun j v hv => (lay_at (own_pre f2_c h (i := i) (by omega)).lay (by
    have := (List.getElem?_eq_some_iff.1 hv).1
    omega)) j v hv) (by omega) (by omega) (by omega)
  rw [show i + (n + 1 - i) = n + 1 by omega] at hr
  have hge := grownCap_ge w (n + 1) n 32
  have hcm : grownCap w (n + 1) n 32 ≤ maxLen := grownCap_le_maxLen w (n + 1) n 32 (by unfold maxLen; omega)
  generalize hC : grownCap w (n + 1) n 32 = C at *
  generalize hX : ((l.take i).flatMap f2).toArray ++ Builtin.zeroCells #[.int .i64 0, .int .i64 0] (n + 1 - i) ++ Builtin.zeroCells #[.int .i64 0, .int .i64 0] (C - (n + 1)) = X at *
  have hXl : X.toList.length = C * 2 := by
    rw [← hX]
    simp only [Array.toList_append, List.length_append, zeros_len, hAl]
    omega
  have hXA : X.toList.take (i * 2) = (l.take i).flatMap f2 := by
    rw [← hX]
    simp only [Array.toList_append, List.append_assoc]
    rw [List.take_append_of_le_length (by omega)]
    exact List.take_of_length_le (by omega)
  clear hX
  obtain ⟨hf1, hf2⟩ := ins_new (V := f2 (c, d)) (B := (l.drop i).flatMap f2) (n := n) hXA hXl hge (by omega) rfl (by rw [flat_length f2_c, List.length_drop, hl])
  have k1 : (0 : Int) ≤ (i : Int) + 1 := by omega
  have k2 : (i : Int) + 1 ≤ ((n + 1 : Nat) : Int) := by omega
  have k3 : (i : Int) + 1 ≤ (C : Int) := by omega
  have k4 : ((i : Int) + 1).toNat = i + 1 := by omega
  have k5 : ¬ C = i + 1 := by omega
  have k6 : (i : Int) ≤ ((n + 1 : Nat) : Int) := by omega
  have k7 : ¬ C = i := by omega
  go_enter Tryz.func163, Tryz.ntmps163
  go_upto_region 10 with (at_builtin; refine wpList_append_run rfl _ _ rfl rfl rfl hr ?_; simp only [Act.put, List.setIfInBounds_toArray, List.set_cons_succ, List.set_cons_zero])
  clear hr
  have hb1 : (w.drew.alloc (.cells X 32)).heap[w.heap.size]? = some (.cells X 32) := by rw [blk_da, if_pos rfl]
  have hq1 : (w.drew.alloc (.cells X 32)).heap[q]? = some (.cells #[.int .i64 c, .int .i64 d] 32) := by rw [blk_da, if_neg (Nat.ne_of_lt hqs)]; exact hq
  have hg1 : w.grownBy (w.drew.alloc (.cells X 32)) (some g) := ⟨rfl, rfl, rfl, by simp, fun k hk _ => by rw [blk_da, if_neg (Nat.ne_of_lt hk)]⟩
  have hw1 := own_grown h (w' := w.drew.alloc (.cells X 32)) (gb := none) ⟨rfl, rfl, rfl, by simp, fun k hk _ => by rw [blk_da, if_neg (Nat.ne_of_lt hk)]⟩ (fun a _ => by simp)
  generalize w.drew.alloc (.cells X 32) = W1 at *
  have hmin : Nat.min 1 (n + 1 - i) = 1 := Nat.min_eq_left (by omega)
  have hXs : X.size = C * 2 := by simpa using hXl
  have hX1l : (X.toList.take (i * 2) ++ f2 (c, d) ++ X.toList.drop (i * 2 + (f2 (c, d)).length)).length = C * 2 := by
    simp only [List.length_append, List.length_take, List.length_drop, show (f2 (c, d)).length = 2 from rfl]
    omega
  have hcp1 := run_copy_cells (P := Tryz.prog) (w := W1) (g := w.heap.size) (cur := X) (o0 := i * 2) (dn := n + 1 - i) (dc := C - i) (q := q) (off := 0) (sn := 1) (sc := cq) (t2 := 88) (ty := 3) kinH (f2 (c, d)) (by rw [hmin]; rfl) (f2_1 (c, d)) hb1 (fun j u hu => lay_at (lay_one hq1) (by decide) j u (by simpa using hu)) (by show i * 2 + 2 ≤ X.size; omega)
  rw [hmin] at hcp1
  have hb2 := setRow_heap W1 w.heap.size X (X.toList.take (i * 2) ++ f2 (c, d) ++ X.toList.drop (i * 2 + (f2 (c, d)).length)).toArray 32 (0, 0) hb1
  have hg2 := grown_past hg1 (grown_row W1 w.heap.size (X.toList.take (i * 2) ++ f2 (c, d) ++ X.toList.drop (i * 2 + (f2 (c, d)).length)).toArray) (Nat.le_refl _)
  have hw2 := own_grown hw1 (grown_row W1 w.heap.size (X.toList.take (i * 2) ++ f2 (c, d) ++ X.toList.drop (i * 2 + (f2 (c, d)).length)).toArray) (fun a ha => by cases ha; simp only [ne_eq, Option.some.injEq]; omega)
  clear hb1 hq1 hg1 hw1 hXA
  generalize X.toList.take (i * 2) ++ f2 (c, d) ++ X.toList.drop (i * 2 + (f2 (c, d)).length) = X1 at *
  generalize W1.setRow w.heap.size X1.toArray = W2 at *
  go_upto_region 11 with fail
  clear hcp1
  refine region_rels 8 ibS (ibΦ g w.heap.size i n n C) (by kernel_rfl) (by kernel_rfl) (by decide) (ibΦ_mono g w.heap.size i n n C) ?steps ?fin
  case steps =>
    refine ⟨?_, ?_, ?_, ?_, ?_, ?_, ?_, ?_, trivial⟩
    · intro a w' hg hfree hdeep
      obtain ⟨x, rfl⟩ := hg
      have f9_ := hfree 9 (by kernel_rfl)
      simp only [ibΦ, got] at f9_
      simp [go_sem] at f9_
      unfold Oper.wp
      simp [go_sem, execOp, Act.eval, ↓IntWalk.iteOmega, f9_]
      exact ⟨_, rfl, ex_refl _, by simp [ibΦ, upd]⟩
    · intro a w' hg hfree hdeep
      obtain ⟨x, rfl⟩ := hg
      have f1_ := hfree 1 (by kernel_rfl)
      simp only [ibΦ, got] at f1_
      simp [go_sem] at f1_
      unfold Oper.wp
      simp [go_sem, execOp, Act.eval, ↓IntWalk.iteOmega, f1_]
      exact ⟨_, rfl, ex_refl _, by simp [ibΦ, upd]⟩
    · intro a w' hg hfree hdeep
      obtain ⟨x, rfl⟩ := hg
      have f7_ := hfree 7 (by kernel_rfl)
      simp only [ibΦ, got] at f7_
      simp [go_sem] at f7_
      unfold Oper.wp
      simp [go_sem, execOp, Act.eval, ↓IntWalk.iteOmega, f7_]
      exact ⟨_, rfl, ex_refl _, by simp [ibΦ, upd]⟩
    · intro a w' hg hfree hdeep
      obtain ⟨x, rfl⟩ := hg
      have d1 := hdeep 1 (by kernel_rfl)
      have d2 := hdeep 2 (by kernel_rfl)
      simp only [ibΦ, got] at d1 d2
      unfold Oper.wp
      simp [go_sem, execOp, Act.eval, ↓IntWalk.iteOmega, d1, d2, iw1]
      exact ⟨_, rfl, ex_refl _, by simp [ibΦ, upd]⟩
    · intro a w' hg hfree hdeep
      obtain ⟨x, rfl⟩ := hg
      have d0 := hdeep 0 (by kernel_rfl)
      have d3 := hdeep 3 (by kernel_rfl)
      simp only [ibΦ, got] at d0 d3
      unfold Oper.wp
      simp [go_sem, execOp, Act.eval, ↓IntWalk.iteOmega, d0, d3, k1, k2, k3, k4, k5]
      exact ⟨_, rfl, ex_refl _, by simp [ibΦ, upd]⟩
    · intro a w' hg hfree hdeep
      obtain ⟨x, rfl⟩ := hg
      have f0_ := hfree 0 (by kernel_rfl)
      simp only [ibΦ, got] at f0_
      simp [go_sem] at f0_
      unfold Oper.wp
      simp [go_sem, execOp, Act.eval, ↓IntWalk.iteOmega, f0_]
      exact ⟨_, rfl, ex_refl _, by simp [ibΦ, upd]⟩
    · intro a w' hg hfree hdeep
      obtain ⟨x, rfl⟩ := hg
      have f1_ := hfree 1 (by kernel_rfl)
      simp only [ibΦ, got] at f1_
      simp [go_sem] at f1_
      unfold Oper.wp
      simp [go_sem, execOp, Act.eval, ↓IntWalk.iteOmega, f1_]
      exact ⟨_, rfl, ex_refl _, by simp [ibΦ, upd]⟩
    · intro a w' hg hfree hdeep
      obtain ⟨x, rfl⟩ := hg
      have d5 := hdeep 5 (by kernel_rfl)
      have d6 := hdeep 6 (by kernel_rfl)
      simp only [ibΦ, got] at d5 d6
      unfold Oper.wp
      simp [go_sem, execOp, Act.eval, ↓IntWalk.iteOmega, d5, d6, i1, i2, i3, i4]
      exact ⟨_, rfl, ex_refl _, by simp [ibΦ, upd]⟩
  case fin =>
    rintro t w' ⟨x2, rfl⟩ hΦ
    have r0 := hΦ 0 (by decide)
    have r1 := hΦ 1 (by decide)
    have r2 := hΦ 2 (by decide)
    have r3 := hΦ 3 (by decide)
    have r4 := hΦ 4 (by decide)
    have r5 := hΦ 5 (by decide)
    have r6 := hΦ 6 (by decide)
    have r7 := hΦ 7 (by decide)
    simp only [ibΦ] at r0 r1 r2 r3 r4 r5 r6 r7
    simp only [putAll, List.take_succ_cons, List.take_zero, List.drop_succ_cons, List.drop_zero, r0, r1, r2, r3, r4, r5, r6, r7]
    simp only [Act.put]
    simp only [List.setIfInBounds_toArray, List.set_cons_succ, List.set_cons_zero]
    clear hΦ r0 r1 r2 r3 r4 r5 r6 r7
    have hb3 := blk_ex (w' := plus W2 x2) ⟨x2, rfl⟩ hb2
    have hw3 := (hw2.ex (w' := plus W2 x2) ⟨x2, rfl⟩).lay.drop f2_c (k := i) (by omega)
    rw [Nat.zero_add] at hw3
    have hBl : ((l.drop i).flatMap f2).length = (n - i) * 2 := by rw [flat_length f2_c, List.length_drop, hl]
    have hcp2 := run_copy_cells (P := Tryz.prog) (w := plus W2 x2) (g := w.heap.size) (cur := X1.toArray) (o0 := (i + 1) * 2) (dn := n - i) (dc := C - (i + 1)) (q := g) (off := i * 2) (sn := n - i) (sc := n - i) (t2 := 88) (ty := 3) kinH ((l.drop i).flatMap f2) (by rw [show Nat.min (n - i) (n - i) = n - i from Nat.min_self _, hBl]) (flat_one f2_1 _) hb3 (lay_at hw3 (by omega)) (by rw [List.size_toArray, hX1l, hBl]; omega)
    have hb4 := setRow_heap (plus W2 x2) w.heap.size X1.toArray (X1.take ((i + 1) * 2) ++ (l.drop i).flatMap f2 ++ X1.drop ((i + 1) * 2 + ((l.drop i).flatMap f2).length)).toArray 32 (0, 0) hb3
    have hg4 := grown_past (hg2.trans (grown_ex' _ ⟨x2, rfl⟩)) (grown_row (plus W2 x2) w.heap.size (X1.take ((i + 1) * 2) ++ (l.drop i).flatMap f2 ++ X1.drop ((i + 1) * 2 + ((l.drop i).flatMap f2).length)).toArray) (Nat.le_refl _)
    generalize X1.take ((i + 1) * 2) ++ (l.drop i).flatMap f2 ++ X1.drop ((i + 1) * 2 + ((l.drop i).flatMap f2).length) = X2 at *
    generalize (plus W2 x2).setRow w.heap.size X2.toArray = W3 at *
    go_wp2
    go_ret
    exact ⟨some ⟨w.heap.size, 0, none⟩, C, rfl, hg4, own_mk (by rw [put_len (by omega), hl]) f2_c hb4 hTs hge hcm (by rw [List.size_toArray]; exact hf2) (by rw [flat_put]; exact hf1)⟩

end

/- What slices.Insert gives of handles, where there is room; and in every case. -/
section

open Go.RowKit Go.ChangeShapes Go.WideShapes Go.ChangeAt

set_option linter.unusedSimpArgs false

set_option linter.unusedVariables false

attribute [local go_sem] plus_size plus_drew dn_set dn_alloc dn_plus plus_dn cell_plus frozen_plus set_plus cell_alloc frozen_alloc set_alloc

def icS (i : Nat) : List Nat := match i with | 0 => [69] | 1 => [70] | 2 => [71] | 3 => [72] | 4 => [73] | 5 => [74] | 6 => [75] | 7 => [76] | _ => []

def icΦ (g ix n cap : Nat) (i : Nat) (t : Nat → Value) (w' : World) : Prop := match i with
  | 0 => t 69 = .slice (some ⟨g, 0, none⟩) (n + 1) cap
  | 1 => t 70 = .int .i64 (ix : Int)
  | 2 => t 71 = .int .i64 1
  | 3 => t 72 = .int .i64 ((ix : Int) + 1)
  | 4 => t 73 = .slice (some ⟨g, (ix + 1) * 2, none⟩) (n - ix) (cap - (ix + 1))
  | 5 => t 74 = .slice (some ⟨g, 0, none⟩) (n + 1) cap
  | 6 => t 75 = .int .i64 (ix : Int)
  | 7 => t 76 = .slice (some ⟨g, ix * 2, none⟩) (n + 1 - ix) (cap - ix)
  | _ => True

theorem icΦ_mono (g ix n cap : Nat) : ∀ i t t' w' x, icΦ g ix n cap i t w' → (∀ s ∈ icS i, t' s = t s) → icΦ g ix n cap i t' (plus w' x) := by
  intro i t t' w' x h hs'
  match i with
  | 0 => exact (hs' 69 (by decide)).trans h
  | 1 => exact (hs' 70 (by decide)).trans h
  | 2 => exact (hs' 71 (by decide)).trans h
  | 3 => exact (hs' 72 (by decide)).trans h
  | 4 => exact (hs' 73 (by decide)).trans h
  | 5 => exact (hs' 74 (by decide)).trans h
  | 6 => exact (hs' 75 (by decide)).trans h
  | 7 => exact (hs' 76 (by decide)).trans h
  | i + 8 => trivial

set_option maxRecDepth 100000 in
set_option maxHeartbeats 4000000 in
theorem insC (T w : World) (g n cap : Nat) (l : List (Int × Int)) (i q cq : Nat) (c d : Int) (h : Own 32 2 f2 T w (some ⟨g, 0, none⟩) n cap l) (hn : n ≤ 1000) (hi : i < n) (hroom : n + 1 ≤ cap) (hq : w.heap[q]? = some (.cells #[.int .i64 c, .int .i64 d] 32)) (hne : q ≠ g) :
    Calls Tryz.prog 163 #[.slice (some ⟨g, 0, none⟩) n cap, .int .i64 (i : Int), .slice (some ⟨q, 0, none⟩) 1 cq] w fun e w' => RetI T w (some ⟨g, 0, none⟩) n cap (put l i (c, d)) e w' := by
  have hl := h.1
  obtain ⟨cur, hb, hs, ht, hTg, hnc, hmx⟩ := own_cur h
  have hqs := blk_lt hq
  have hgs := blk_lt hb
  have dn : ((i : Int) == (n : Int)) = false := by rw [beq_eq_false_iff_ne]; omega
  have i1 : (i : Int) ≤ (n : Int) := by omega
  have i2 : (0 : Int) ≤ (i : Int) := by omega
  have i3 : ¬ cap = i := by omega
  have i4 : (i : Int) ≤ (cap : Int) := by omega
  have iw : IntKind.i64.wrap ((n : Int) + 1) = (n : Int) + 1 := wrap_le (by omega)
  have iw1 : IntKind.i64.wrap ((i : Int) + 1) = (i : Int) + 1 := wrap_le (by omega)
  have gt : ¬ (cap : Int) < (n : Int) + 1 := by omega
  have gt2 : (n : Int) + 1 ≤ (cap : Int) := by omega
  have gt3 : (0 : Int) ≤ (n : Int) + 1 := by omega
  have gt4 : ((n : Int) + 1).toNat = n + 1 := by omega
  have k1 : (0 : Int) ≤ (i : Int) + 1 := by omega
  have k2 : (i : Int) + 1 ≤ ((n + 1 : Nat) : Int) := by omega
  have k3 : (i : Int) + 1 ≤ (cap : Int) := by omega
  have k4 : ((i : Int) + 1).toNat = i + 1 := by omega
  have k5 : ¬ cap = i + 1 := by omega
  have k6 : (i : Int) ≤ ((n + 1 : Nat) : Int) := by omega
  have k7 : ¬ cap = i := by omega
  have hov := run_overlaps (o1 := 0) (n1 := 1) (c1 := cq) (o2 := (i + 1) * 2) (n2 := n - i) (c2 := cap - (i + 1)) hq hb hne
  go_enter Tryz.func163, Tryz.ntmps163
  go_upto_region 15 with fail
  clear hov
  refine region_rels 8 icS (icΦ g i n cap) (by kernel_rfl) (by kernel_rfl) (by decide) (icΦ_mono g i n cap) ?steps ?fin
  case steps =>
    refine ⟨?_, ?_, ?_, ?_, ?_, ?_, ?_, ?_, trivial⟩
    · intro a w' hg hfree hdeep
      obtain ⟨x, rfl⟩ := hg
      have f0_ := hfree 0 (by kernel_rfl)
      simp only [icΦ, got] at f0_
      simp [go_sem] at f0_
      unfold Oper.wp
      simp [go_sem, execOp, Act.eval, ↓IntWalk.iteOmega, f0_]
      exact ⟨_, rfl, ex_refl _, by simp [icΦ, upd]⟩
    · intro a w' hg hfree hdeep
      obtain ⟨x, rfl⟩ := hg
      have f1_ := hfree 1 (by kernel_rfl)
      simp only [icΦ, got] at f1_
      simp [go_sem] at f1_
      unfold Oper.wp
      simp [go_sem, execOp, Act.eval, ↓IntWalk.iteOmega, f1_]
      exact ⟨_, rfl, ex_refl _, by simp [icΦ, upd]⟩
    · intro a w' hg hfree hdeep
      obtain ⟨x, rfl⟩ := hg
      have f7_ := hfree 7 (by kernel_rfl)
      simp only [icΦ, got] at f7_
      simp [go_sem] at f7_
      unfold Oper.wp
      simp [go_sem, execOp, Act.eval, ↓IntWalk.iteOmega, f7_]
      exact ⟨_, rfl, ex_refl _, by simp [icΦ, upd]⟩
    · intro a w' hg hfree hdeep
      obtain ⟨x, rfl⟩ := hg
      have d1 := hdeep 1 (by kernel_rfl)
      have d2 := hdeep 2 (by kernel_rfl)
      simp only [icΦ, got] at d1 d2
      unfold Oper.wp
      simp [go_sem, execOp, Act.eval, ↓IntWalk.iteOmega, d1, d2, iw1]
      exact ⟨_, rfl, ex_refl _, by simp [icΦ, upd]⟩
    · intro a w' hg hfree hdeep
      obtain ⟨x, rfl⟩ := hg
      have d0 := hdeep 0 (by kernel_rfl)
      have d3 := hdeep 3 (by kernel_rfl)
      simp only [icΦ, got] at d0 d3
      unfold Oper.wp
      simp [go_sem, execOp, Act.eval, ↓IntWalk.iteOmega, d0, d3, k1, k2, k3, k4, k5]
      exact ⟨_, rfl, ex_refl _, by simp [icΦ, upd]⟩
    · intro a w' hg hfree hdeep
      obtain ⟨x, rfl⟩ := hg
      have f0_ := hfree 0 (by kernel_rfl)
      simp only [icΦ, got] at f0_
      simp [go_sem] at f0_
      unfold Oper.wp
      simp [go_sem, execOp, Act.eval, ↓IntWalk.iteOmega, f0_]
      exact ⟨_, rfl, ex_refl _, by simp [icΦ, upd]⟩
    · intro a w' hg hfree hdeep
      obtain ⟨x, rfl⟩ := hg
      have f1_ := hfree 1 (by kernel_rfl)
      simp only [icΦ, got] at f1_
      simp [go_sem] at f1_
      unfold Oper.wp
      simp [go_sem, execOp, Act.eval, ↓IntWalk.iteOmega, f1_]
      exact ⟨_, rfl, ex_refl _, by simp [icΦ, upd]⟩
    · intro a w' hg hfree hdeep
      obtain ⟨x, rfl⟩ := hg
      have d5 := hdeep 5 (by kernel_rfl)
      have d6 := hdeep 6 (by kernel_rfl)
      simp only [icΦ, got] at d5 d6
      unfold Oper.wp
      simp [go_sem, execOp, Act.eval, ↓IntWalk.iteOmega, d5, d6, k6, i2, i3, k7]
      exact ⟨_, rfl, ex_refl _, by simp [icΦ, upd]⟩
  case fin =>
    rintro t w' ⟨x2, rfl⟩ hΦ
    have r0 := hΦ 0 (by decide)
    have r1 := hΦ 1 (by decide)
    have r2 := hΦ 2 (by decide)
    have r3 := hΦ 3 (by decide)
    have r4 := hΦ 4 (by decide)
    have r5 := hΦ 5 (by decide)
    have r6 := hΦ 6 (by decide)
    have r7 := hΦ 7 (by decide)
    simp only [icΦ] at r0 r1 r2 r3 r4 r5 r6 r7
    simp only [putAll, List.take_succ_cons, List.take_zero, List.drop_succ_cons, List.drop_zero, r0, r1, r2, r3, r4, r5, r6, r7]
    simp only [Act.put]
    simp only [List.setIfInBounds_toArray, List.set_cons_succ, List.set_cons_zero]
    clear hΦ r0 r1 r2 r3 r4 r5 r6 r7
    have hBl : ((l.drop i).flatMap f2).length = (n - i) * 2 := by rw [flat_length f2_c, List.length_drop, hl]
    have hcl : cur.toList.length = cap * 2 := by simpa using hs
    have hA : cur.toList.take (i * 2) = (l.take i).flatMap f2 := by rw [← flat_take f2_c l i (by omega), ← ht, List.take_take, Nat.min_eq_left (by omega)]
    obtain ⟨hf1, hf2⟩ := ins_in (V := f2 (c, d)) (B := (l.drop i).flatMap f2) (n := n) hA hcl hroom (by omega) rfl hBl
    have hb3 := blk_ex (w' := plus w x2) ⟨x2, rfl⟩ hb
    have hq3 := blk_ex (w' := plus w x2) ⟨x2, rfl⟩ hq
    have hw3 := (h.ex (w' := plus w x2) ⟨x2, rfl⟩).lay.drop f2_c (k := i) (by omega)
    rw [Nat.zero_add] at hw3
    have hmin : Nat.min (n + 1 - i) (n - i) = n - i := Nat.min_eq_right (by omega)
    have hmin2 : Nat.min 1 (n + 1 - i) = 1 := Nat.min_eq_left (by omega)
    have hcp1 := run_copy_cells (P := Tryz.prog) (w := plus w x2) (g := g) (cur := cur) (o0 := (i + 1) * 2) (dn := n - i) (dc := cap - (i + 1)) (q := g) (off := i * 2) (sn := n + 1 - i) (sc := cap - i) (t2 := 88) (ty := 3) kinH ((l.drop i).flatMap f2) (by rw [hmin, hBl]) (flat_one f2_1 _) hb3 (lay_at hw3 (by omega)) (by rw [hBl, hs]; omega)
    rw [hmin] at hcp1
    have hb4 := setRow_heap (plus w x2) g cur (cur.toList.take ((i + 1) * 2) ++ (l.drop i).flatMap f2 ++ cur.toList.drop ((i + 1) * 2 + ((l.drop i).flatMap f2).length)).toArray 32 (0, 0) hb3
    have hg4 := (grown_ex' (some g) ⟨x2, rfl⟩).trans (grown_row (plus w x2) g (cur.toList.take ((i + 1) * 2) ++ (l.drop i).flatMap f2 ++ cur.toList.drop ((i + 1) * 2 + ((l.drop i).flatMap f2).length)).toArray)
    have hq4 : ((plus w x2).setRow g (cur.toList.take ((i + 1) * 2) ++ (l.drop i).flatMap f2 ++ cur.toList.drop ((i + 1) * 2 + ((l.drop i).flatMap f2).length)).toArray).heap[q]? = _ := ((grown_row (plus w x2) g (cur.toList.take ((i + 1) * 2) ++ (l.drop i).flatMap f2 ++ cur.toList.drop ((i + 1) * 2 + ((l.drop i).flatMap f2).length)).toArray).block q (blk_lt hq3) (fun e => hne (by cases e; rfl))).trans hq3
    have hX1l : (cur.toList.take ((i + 1) * 2) ++ (l.drop i).flatMap f2 ++ cur.toList.drop ((i + 1) * 2 + ((l.drop i).flatMap f2).length)).length = cap * 2 := by
      simp only [List.length_append, List.length_take, List.length_drop, hBl]
      omega
    generalize cur.toList.take ((i + 1) * 2) ++ (l.drop i).flatMap f2 ++ cur.toList.drop ((i + 1) * 2 + ((l.drop i).flatMap f2).length) = X1 at *
    generalize (plus w x2).setRow g X1.toArray = W2 at *
    clear hA
    have hcp2 := run_copy_cells (P := Tryz.prog) (w := W2) (g := g) (cur := X1.toArray) (o0 := i * 2) (dn := n + 1 - i) (dc := cap - i) (q := q) (off := 0) (sn := 1) (sc := cq) (t2 := 88) (ty := 3) kinH (f2 (c, d)) (by rw [hmin2]; rfl) (f2_1 (c, d)) hb4 (fun j u hu => lay_at (lay_one hq4) (by decide) j u (by simpa using hu)) (by show i * 2 + 2 ≤ X1.toArray.size; rw [List.size_toArray]; omega)
    rw [hmin2] at hcp2
    have hb5 := setRow_heap W2 g X1.toArray (X1.take (i * 2) ++ f2 (c, d) ++ X1.drop (i * 2 + (f2 (c, d)).length)).toArray 32 (0, 0) hb4
    have hg5 := hg4.trans (grown_row W2 g (X1.take (i * 2) ++ f2 (c, d) ++ X1.drop (i * 2 + (f2 (c, d)).length)).toArray)
    simp only at hcp2
    generalize X1.take (i * 2) ++ f2 (c, d) ++ X1.drop (i * 2 + (f2 (c, d)).length) = X2 at *
    generalize W2.setRow g X2.toArray = W3 at *
    go_wp2
    go_ret
    exact ⟨some ⟨g, 0, none⟩, cap, rfl, hg5, own_mk (by rw [put_len (by omega), hl]) f2_c hb5 hTg hroom hmx (by rw [List.size_toArray]; exact hf2) (by rw [flat_put]; exact hf1)⟩

theorem insH (T w : World) (ao : Option Addr) (n cap : Nat) (l : List (Int × Int)) (i q cq : Nat) (c d : Int) (hT : ∃ y, w = plus T y) (h : Own 32 2 f2 T w ao n cap l) (hn : n ≤ 1000) (hi : i ≤ n) (hq : w.heap[q]? = some (.cells #[.int .i64 c, .int .i64 d] 32)) (hne : ∀ a, ao = some a → a.block ≠ q) :
    Calls Tryz.prog 163 #[.slice ao n cap, .int .i64 (i : Int), .slice (some ⟨q, 0, none⟩) 1 cq] w fun e w' => RetI T w ao n cap (put l i (c, d)) e w' := by
  cases ao with
  | none =>
    obtain ⟨rfl, rfl⟩ := h.none_zero rfl
    obtain rfl : i = 0 := by omega
    obtain rfl : l = [] := List.eq_nil_of_length_eq_zero h.1
    exact insN T w q cq c d hT hq
  | some a =>
    obtain ⟨g, rfl⟩ : ∃ g, a = ⟨g, 0, none⟩ := by
      rcases h.2.2 with ⟨h1, _⟩ | ⟨k, cp, cu, h1, _⟩
      · simp at h1
      · simp only [Value.slice.injEq, Option.some.injEq] at h1
        exact ⟨k, h1.1⟩
    have hl := h.1
    by_cases e : i = n
    · subst e
      have hp : put l i (c, d) = l ++ [(c, d)] := by rw [put, List.take_of_length_le (by omega), List.drop_eq_nil_of_le (by omega)]
      rw [hp]
      exact insA T w g i cap l q cq c d hT h hn hq
    · by_cases hr : n + 1 ≤ cap
      · exact insC T w g n cap l i q cq c d h hn (by omega) hr hq (fun e2 => hne _ rfl e2.symm)
      · have hcap := h.cap_le
        obtain rfl : cap = n := by omega
        exact insB T w g cap l i q cq c d hT h hn (by omega) hq

end

/- What nodes.Link gives. -/
section

open Go.Maps Go.RowKit Go.ChangeShapes Go.WideShapes Go.ChangeAt

set_option linter.unusedSimpArgs false

set_option linter.unusedVariables false

attribute [local go_sem] plus_size plus_drew dn_set dn_alloc dn_plus plus_dn cell_plus frozen_plus set_plus cell_alloc frozen_alloc set_alloc

def lnS (i : Nat) : List Nat := match i with | 0 => [49] | 1 => [50] | 2 => [51] | 3 => [52] | 4 => [53] | 5 => [54] | 6 => [55] | 7 => [56] | 8 => [57] | 9 => [58] | 10 => [59] | 11 => [60] | 12 => [61] | 13 => [62] | 14 => [63] | _ => []

def lnΦ (T : World) (gq : Option Nat) (pl kb kn kc ph k : Nat) (ra : Option Addr) (rn rc p : Nat) (c d : Int) (l : List (Int × Int)) (i : Nat) (t : Nat → Value) (D : Nat → Bool) (w' : World) : Prop := match i with
  | 0 => t 49 = .pointer (some ⟨pl, 1, none⟩)
  | 1 => t 50 = .slice (some ⟨kb, 0, none⟩) kn kc
  | 2 => t 51 = .pointer (some ⟨ph, 0, none⟩)
  | 3 => t 52 = .int .i64 (k : Int)
  | 4 => t 53 = .pointer (some ⟨pl, 1, none⟩)
  | 5 => t 54 = .slice (some ⟨kb, 0, none⟩) kn kc
  | 6 => t 55 = .pointer (some ⟨ph, 0, none⟩)
  | 7 => t 56 = .int .i64 (k : Int)
  | 8 => t 57 = .pointer (some ⟨kb, k, none⟩)
  | 9 => t 58 = .slice ra rn rc
  | 10 => t 59 = .int .i64 (p : Int)
  | 11 => t 60 = .agg #[.int .i64 c, .int .i64 d]
  | 12 => ∃ q, t 61 = .slice (some ⟨q, 0, none⟩) 1 1 ∧ w'.heap[q]? = some (.cells #[.int .i64 c, .int .i64 d] 32) ∧ some q ≠ gq
  | 13 => ∃ ao' cap', t 62 = .slice ao' (rn + 1) cap' ∧ Own 32 2 f2 T w' ao' (rn + 1) cap' (put l p (c, d)) ∧ D 13 = true
  | 14 => t 63 = .pointer (some ⟨kb, k, none⟩)
  | _ => True

theorem lnΦ_mono (T : World) (gq : Option Nat) (pl kb kn kc ph k : Nat) (ra : Option Addr) (rn rc p : Nat) (c d : Int) (l : List (Int × Int)) : ∀ i t t' D w D' w', lnΦ T gq pl kb kn kc ph k ra rn rc p c d l i t D w → (∀ s ∈ lnS i, t' s = t s) → Turn 13 gq D w D' w' → lnΦ T gq pl kb kn kc ph k ra rn rc p c d l i t' D' w' := by
  intro i t t' D w D' w' h hs' ht
  match i with
  | 0 => exact (hs' 49 (by decide)).trans h
  | 1 => exact (hs' 50 (by decide)).trans h
  | 2 => exact (hs' 51 (by decide)).trans h
  | 3 => exact (hs' 52 (by decide)).trans h
  | 4 => exact (hs' 53 (by decide)).trans h
  | 5 => exact (hs' 54 (by decide)).trans h
  | 6 => exact (hs' 55 (by decide)).trans h
  | 7 => exact (hs' 56 (by decide)).trans h
  | 8 => exact (hs' 57 (by decide)).trans h
  | 9 => exact (hs' 58 (by decide)).trans h
  | 10 => exact (hs' 59 (by decide)).trans h
  | 11 => exact (hs' 60 (by decide)).trans h
  | 12 => obtain ⟨q, e, hb, hn⟩ := h; exact ⟨q, (hs' 61 (by decide)).trans e, turn_blk ht hn hb, hn⟩
  | 13 => obtain ⟨x, y, e, o, hd⟩ := h; exact ⟨x, y, (hs' 62 (by decide)).trans e, own_turn o ht hd, ht.mono hd⟩
  | 14 => exact (hs' 63 (by decide)).trans h
  | i + 15 => trivial

def lkS (i : Nat) : List Nat := match i with | 0 => [40] | 1 => [41] | 2 => [42] | 3 => [43] | 4 => [44] | _ => []

def lkΦ (W : World) (ao : Option Addr) (n cap : Nat) (ko : Option Addr) (kn kcap : Nat) (hs : List RH) (gr : Gr) (f1 f2 t1 t2 : Int) (i : Nat) (t : Nat → Value) (w' : World) : Prop := match i with
  | 0 => t 40 = .agg #[.slice ao n cap, .slice ko kn kcap]
  | 1 => ∃ p3 p4 p1 b, t 41 = .func (.func 170) #[] #[.pointer (some ⟨p3, 0, none⟩), .pointer (some ⟨p4, 0, none⟩)] ∧ Env w' p3 p4 p1 b ao n cap ko kn kcap hs gr ∧ W.heap.size ≤ b ∧ ∃ es c, w'.heap[b]? = some (.map es c)
  | 2 => t 42 = .agg #[.int .i64 f1, .int .i64 f2]
  | 3 => ∃ q, t 43 = .slice (some ⟨q, 0, none⟩) 1 1 ∧ w'.heap[q]? = some (.cells #[.int .i64 f1, .int .i64 f2] 32)
  | 4 => t 44 = .agg #[.int .i64 t1, .int .i64 t2]
  | _ => True

theorem lkΦ_mono (W : World) (ao : Option Addr) (n cap : Nat) (ko : Option Addr) (kn kcap : Nat) (hs : List RH) (gr : Gr) (f1 f2 t1 t2 : Int) : ∀ i t t' w' x, lkΦ W ao n cap ko kn kcap hs gr f1 f2 t1 t2 i t w' → (∀ s ∈ lkS i, t' s = t s) → lkΦ W ao n cap ko kn kcap hs gr f1 f2 t1 t2 i t' (plus w' x) := by
  intro i t t' w' x h hs'
  match i with
  | 0 => exact (hs' 40 (by decide)).trans h
  | 1 => obtain ⟨p3, p4, p1, b, e, hE, hb, hm⟩ := h; exact ⟨p3, p4, p1, b, (hs' 41 (by decide)).trans e, hE.grown (grown_ex _ ⟨x, rfl⟩) hm, hb, map_grown hm ⟨x, rfl⟩⟩
  | 2 => exact (hs' 42 (by decide)).trans h
  | 3 => obtain ⟨q, e, hq⟩ := h; exact ⟨q, (hs' 43 (by decide)).trans e, blk_ex ⟨x, rfl⟩ hq⟩
  | 4 => exact (hs' 44 (by decide)).trans h
  | i + 5 => trivial

theorem own_block {α : Type} {f : α → List Value} {T w : World} {ao : Option Addr} {n cap c : Nat} {l : List α} {e : TypeId} (h : Own e c f T w ao n cap l) : ∀ q, Value.ownBlock (.slice ao n cap) = some q → q < w.heap.size ∧ T.heap.size ≤ q ∧ ao = some ⟨q, 0, none⟩ ∧ ∃ cur, w.heap[q]? = some (.cells cur e) := by
  intro q hq
  rcases h.2.2 with ⟨h1, _⟩ | ⟨k, cp, cu, h1, h2, h3, _⟩
  · simp only [Value.slice.injEq] at h1
    rw [h1.1] at hq
    cases hq
  · simp only [Value.slice.injEq] at h1
    rw [h1.1] at hq
    simp only [Value.ownBlock, Option.some.injEq] at hq
    subst hq
    exact ⟨blk_lt h3, h2, h1.1, cu, h3⟩

set_option maxRecDepth 100000 in
set_option maxHeartbeats 16000000 in
theorem nlink_calls (ao : Option Addr) (n cap : Nat) (ko : Option Addr) (kn kcap : Nat) (hs : List RH) (gr : Gr) (s g x1 x2 pos : Int) (w : World) (hG : GrAt w ao n ko kn hs gr) :
    Calls Tryz.prog 122 #[.agg #[.slice ao n cap, .slice ko kn kcap], .agg #[.int .i64 s, .int .i64 g], .agg #[.int .i64 x1, .int .i64 x2], .int .i64 pos] w fun e w' => RetG w (linkRes gr (s, g) (x1, x2) pos) (linkErr gr (s, g) (x1, x2) pos) e w' := by
  have hlen := hG.kl
  have hkh := hG.kh.len
  have hsl := hG.sl.len
  have m2 := hG.n2
  rcases ask_err gr (s, g) (x1, x2) with he | he | he
  rotate_left
  · have hu : linkErr gr (s, g) (x1, x2) pos = 8 := by rw [linkErr, he, if_neg (by decide)]
    rw [hu, show linkRes gr (s, g) (x1, x2) pos = zeroG by rw [linkRes, hu]; rfl]
    go_enter Tryz.func122, Tryz.ntmps122
    go_wp2_with (go_at_call 162; refine (plus_post (ref2_is he (hG.ex sk0) (by simp only [blk_alloc]; simp [go_sem, ↓IntWalk.iteOmega]))).mono ?_; rintro e w' ⟨rfl, nx, rfl⟩)
    exact bodyPost_ret (v := .tuple #[.agg #[.slice none 0 0, .slice none 0 0], .int .i64 8]) (by simp [results, Tryz.results122, go_sem, ↓IntWalk.iteOmega]) rfl ⟨none, 0, none, 0, [], rfl, sk0, own_zero⟩
  · have hu : linkErr gr (s, g) (x1, x2) pos = 50 := by rw [linkErr, he, if_neg (by decide)]
    rw [hu, show linkRes gr (s, g) (x1, x2) pos = zeroG by rw [linkRes, hu]; rfl]
    go_enter Tryz.func122, Tryz.ntmps122
    go_wp2_with (go_at_call 162; refine (plus_post (ref2_is he (hG.ex sk0) (by simp only [blk_alloc]; simp [go_sem, ↓IntWalk.iteOmega]))).mono ?_; rintro e w' ⟨rfl, nx, rfl⟩)
    exact bodyPost_ret (v := .tuple #[.agg #[.slice none 0 0, .slice none 0 0], .int .i64 50]) (by simp [results, Tryz.results122, go_sem, ↓IntWalk.iteOmega]) rfl ⟨none, 0, none, 0, [], rfl, sk0, own_zero⟩
  obtain ⟨hok, hh, hh2⟩ := ask_ok he
  have hl := held_lt hh
  have hl2 := held_lt hh2
  simp only at hl hl2 hh hh2
  obtain ⟨_, h2, h3, _⟩ := gr_parts hok
  have hK := KHeld.of gr h2 h3
  obtain ⟨k, rfl⟩ : ∃ k : Nat, s = (k : Int) := ⟨s.toNat, by omega⟩
  obtain ⟨j, rfl⟩ : ∃ j : Nat, x1 = (j : Int) := ⟨x1.toNat, by omega⟩
  rw [Int.toNat_natCast] at hl hl2
  have hkl : k < kn := by omega
  have ik : (k : Int) < (kn : Int) := by omega
  obtain ⟨kg, kf, rfl, hkg, hkc⟩ := hG.kh.some (by omega)
  have c1 := cellR hkh hkc hkl
  have hrow := hG.row k (by omega)
  have hrl := hrow.len
  have hn3 := hG.n3 k (by omega)
  have h16 := (rows_at h3 (i := k) (by omega)).1
  have hra : rowAt gr ((k : Int), g) = nth [] gr.ks k := by rw [rowAt]; show nth [] gr.ks ((k : Int)).toNat = _; rw [Int.toNat_natCast]
  have hue : linkErr gr ((k : Int), g) ((j : Int), x2) pos = if 0 ≤ pos ∧ pos ≤ ((nth dRH hs k).n : Int) then (if (nth dRH hs k).n < 16 then (if reachB gr ((j : Int), x2) ((k : Int), g) = true then 60 else 0) else 9) else 2 := by 
    rw [linkErr, he, if_pos rfl, hra, hrl]
    by_cases q2 : (nth dRH hs k).n < 16
    · have q3 : ¬ 16 ≤ (nth dRH hs k).n := by omega
      rw [if_neg q3, if_pos q2]
    · have q3 : 16 ≤ (nth dRH hs k).n := by omega
      rw [if_pos q3, if_neg q2]
  by_cases hp0 : pos < 0
  · rw [if_neg (by omega)] at hue
    rw [hue, show linkRes gr ((k : Int), g) ((j : Int), x2) pos = zeroG by rw [linkRes, hue]; rfl]
    go_enter Tryz.func122, Tryz.ntmps122
    go_wp2_with (go_at_call 162; refine (plus_post (ref2_is he (hG.ex sk0) (by simp only [blk_alloc]; simp [go_sem, ↓IntWalk.iteOmega]))).mono ?_; rintro e w' ⟨rfl, nx, rfl⟩)
    exact bodyPost_ret (v := .tuple #[.agg #[.slice none 0 0, .slice none 0 0], .int .i64 2]) (by simp [results, Tryz.results122, go_sem, ↓IntWalk.iteOmega]) rfl ⟨none, 0, none, 0, [], rfl, sk0, own_zero⟩
  have dp0 := decide_eq_false hp0
  obtain ⟨p, rfl⟩ : ∃ p : Nat, pos = (p : Int) := ⟨pos.toNat, by omega⟩
  by_cases hp1 : (nth dRH hs k).n < p
  · have ip1 : ((nth dRH hs k).n : Int) < (p : Int) := by omega
    rw [if_neg (by omega)] at hue
    rw [hue, show linkRes gr ((k : Int), g) ((j : Int), x2) p = zeroG by rw [linkRes, hue]; rfl]
    go_enter Tryz.func122, Tryz.ntmps122
    go_wp2_with (go_at_call 162; refine (plus_post (ref2_is he (hG.ex sk0) (by simp only [blk_alloc]; simp [go_sem, ↓IntWalk.iteOmega]))).mono ?_; rintro e w' ⟨rfl, nx, rfl⟩)
    exact bodyPost_ret (v := .tuple #[.agg #[.slice none 0 0, .slice none 0 0], .int .i64 2]) (by simp [results, Tryz.results122, go_sem, ↓IntWalk.iteOmega]) rfl ⟨none, 0, none, 0, [], rfl, sk0, own_zero⟩
  have ip1 : ¬ ((nth dRH hs k).n : Int) < (p : Int) := by omega
  have dp1 := decide_eq_false ip1
  rw [if_pos (by omega)] at hue
  by_cases hp2 : (nth dRH hs k).n < 16
  rotate_left
  · have d16 : (((nth dRH hs k).n : Int) == 16) = true := by rw [beq_iff_eq]; omega
    rw [if_neg hp2] at hue
    rw [hue, show linkRes gr ((k : Int), g) ((j : Int), x2) p = zeroG by rw [linkRes, hue]; rfl]
    go_enter Tryz.func122, Tryz.ntmps122
    go_wp2_with (go_at_call 162; refine (plus_post (ref2_is he (hG.ex sk0) (by simp only [blk_alloc]; simp [go_sem, ↓IntWalk.iteOmega]))).mono ?_; rintro e w' ⟨rfl, nx, rfl⟩)
    exact bodyPost_ret (v := .tuple #[.agg #[.slice none 0 0, .slice none 0 0], .int .i64 9]) (by simp [results, Tryz.results122, go_sem, ↓IntWalk.iteOmega]) rfl ⟨none, 0, none, 0, [], rfl, sk0, own_zero⟩
  have d16 : (((nth dRH hs k).n : Int) == 16) = false := by rw [beq_eq_false_iff_ne]; omega
  have n16 : ¬ ((nth dRH hs k).n : Int) = 16 := by omega
  rw [if_pos hp2] at hue
  have hab : anyR gr [((j : Int), x2)] ((k : Int), g) = reachB gr ((j : Int), x2) ((k : Int), g) := by simp [anyR]
  cases hAB : anyR gr [((j : Int), x2)] ((k : Int), g)
  rotate_left
  · rw [← hab, hAB, if_pos rfl] at hue
    rw [hue, show linkRes gr ((k : Int), g) ((j : Int), x2) p = zeroG by rw [linkRes, hue]; rfl]
    go_enter Tryz.func122, Tryz.ntmps122
    go_upto_region 9 with (go_at_call 162; refine (plus_post (ref2_is he (hG.ex sk0) (by simp only [blk_alloc]; simp [go_sem, ↓IntWalk.iteOmega]))).mono ?_; rintro e w' ⟨rfl, nx, rfl⟩)
    refine region_rels 5 lkS (lkΦ (plus (((((w.alloc (.cells #[.slice ao n cap, .slice (some ⟨kg, kf, none⟩) kn kcap] 27)).alloc (.cells #[.int .i64 (k : Int), .int .i64 g] 32)).alloc (.cells #[.int .i64 (j : Int), .int .i64 x2] 32)).alloc (.cells #[.slice none 0 0, .slice none 0 0] 27)).alloc (.cells #[.int .i64 (k : Int), .int .i64 g, .int .i64 (j : Int), .int .i64 x2] 32)) nx) ao n cap (some ⟨kg, kf, none⟩) kn kcap hs gr (j : Int) x2 (k : Int) g) (by kernel_rfl) (by kernel_rfl) (by decide) (lkΦ_mono (plus (((((w.alloc (.cells #[.slice ao n cap, .slice (some ⟨kg, kf, none⟩) kn kcap] 27)).alloc (.cells #[.int .i64 (k : Int), .int .i64 g] 32)).alloc (.cells #[.int .i64 (j : Int), .int .i64 x2] 32)).alloc (.cells #[.slice none 0 0, .slice none 0 0] 27)).alloc (.cells #[.int .i64 (k : Int), .int .i64 g, .int .i64 (j : Int), .int .i64 x2] 32)) nx) ao n cap (some ⟨kg, kf, none⟩) kn kcap hs gr (j : Int) x2 (k : Int) g) ?steps ?fin
    case steps =>
      refine ⟨?_, ?_, ?_, ?_, ?_, trivial⟩
      · intro a w' hg hfree hdeep
        obtain ⟨x, rfl⟩ := hg
        have f4_ := hfree 4 (by kernel_rfl)
        simp only [lkΦ, got] at f4_
        simp [go_sem] at f4_
        unfold Oper.wp
        simp [go_sem, execOp, Act.eval, ↓IntWalk.iteOmega, f4_]
        exact ⟨_, rfl, ex_refl _, by simp [lkΦ, upd]⟩
      · intro a w' hg hfree hdeep
        obtain ⟨x, rfl⟩ := hg
        have d0 := hdeep 0 (by kernel_rfl)
        simp only [lkΦ, got] at d0
        unfold Oper.wp
        simp [go_sem, execOp, Act.eval, ↓IntWalk.iteOmega, d0]
        refine (reacher_calls ao n cap _ kn kcap hs gr _ (hG.ex sk0)).mono ?_
        rintro e w1 ⟨p3, p4, p1, b, rfl, hw1, hE1, hb1, hm1⟩
        exact ⟨_, rfl, hw1, p3, p4, p1, b, by simp [upd], hE1, by rw [plus_size] at hb1; omega, hm1⟩
      · intro a w' hg hfree hdeep
        obtain ⟨x, rfl⟩ := hg
        have f6_ := hfree 6 (by kernel_rfl)
        simp only [lkΦ, got] at f6_
        simp [go_sem] at f6_
        unfold Oper.wp
        simp [go_sem, execOp, Act.eval, ↓IntWalk.iteOmega, f6_]
        exact ⟨_, rfl, ex_refl _, by simp [lkΦ, upd]⟩
      · intro a w' hg hfree hdeep
        obtain ⟨x, rfl⟩ := hg
        have d2 := hdeep 2 (by kernel_rfl)
        simp only [lkΦ, got] at d2
        simp at d2
        unfold Oper.wp
        simp [go_sem, execOp, Act.eval, ↓IntWalk.iteOmega, d2]
        exact ⟨_, rfl, ex_alloc (ex_refl _), _, by simp [upd]; rfl, by rw [blk_alloc, if_pos (by simp [go_sem])]⟩
      · intro a w' hg hfree hdeep
        obtain ⟨x, rfl⟩ := hg
        have f5_ := hfree 5 (by kernel_rfl)
        simp only [lkΦ, got] at f5_
        simp [go_sem] at f5_
        unfold Oper.wp
        simp [go_sem, execOp, Act.eval, ↓IntWalk.iteOmega, f5_]
        exact ⟨_, rfl, ex_refl _, by simp [lkΦ, upd]⟩
    case fin =>
      rintro t w' hg hΦ
      have r0 := hΦ 0 (by decide)
      obtain ⟨p3, p4, p1, b, r1, hE, hb, hm⟩ := hΦ 1 (by decide)
      have r2 := hΦ 2 (by decide)
      obtain ⟨q, r3, hq⟩ := hΦ 3 (by decide)
      have r4 := hΦ 4 (by decide)
      simp only [lkΦ] at r0 r2 r4
      simp only [putAll, List.take_succ_cons, List.take_zero, List.drop_succ_cons, List.drop_zero, r0, r1, r2, r3, r4]
      simp only [Act.put]
      simp only [List.setIfInBounds_toArray, List.set_cons_succ, List.set_cons_zero]
      clear hΦ r0 r1 r2 r3 r4
      have hx9 : ∃ y, (plus (((((w.alloc (.cells #[.slice ao n cap, .slice (some ⟨kg, kf, none⟩) kn kcap] 27)).alloc (.cells #[.int .i64 (k : Int), .int .i64 g] 32)).alloc (.cells #[.int .i64 (j : Int), .int .i64 x2] 32)).alloc (.cells #[.slice none 0 0, .slice none 0 0] 27)).alloc (.cells #[.int .i64 (k : Int), .int .i64 g, .int .i64 (j : Int), .int .i64 x2] 32)) nx) = plus w y := sk0
      have hb0 : w.heap.size ≤ b := by have := hb; simp [go_sem] at this ⊢; omega
      have bR9 : w'.heap[w.heap.size + 1 + 1 + 1]? = some (.cells #[.slice none 0 0, .slice none 0 0] 27) := blk_ex hg (blk_ex (ex_plus (ex_refl _)) (by simp only [blk_alloc]; simp [go_sem, ↓IntWalk.iteOmega]))
      refine name_world (fun w0 => w0.heap[w.heap.size + 1 + 1 + 1]? = some (.cells #[.slice none 0 0, .slice none 0 0] 27) ∧ (∃ y, w0 = plus w y) ∧ Env w0 p3 p4 p1 b ao n cap (some ⟨kg, kf, none⟩) kn kcap hs gr ∧ (∃ es c, w0.heap[b]? = some (.map es c)) ∧ w0.heap[q]? = some (.cells #[.int .i64 (j : Int), .int .i64 x2] 32)) ⟨bR9, ex_trans hx9 hg, hE, hm, hq⟩ ?_
      clear hE hm hq bR9 hx9 hg hb
      rintro w0 ⟨bR0, hx0, hE, hm, hq⟩
      go_upto_region 10 with (go_at_call 170; refine (reach2 p3 p4 p1 b ao n cap _ kn kcap hs gr hK k g hh _ _ _ [((j : Int), x2)] _ hE hm (lay_one hq) (by decide) (fun x hx => by rw [List.mem_singleton] at hx; rw [hx]; exact hh2)).mono ?_; rintro e w4 ⟨rfl, hg4, hm4⟩; rw [hAB])
      have bR4 := blk_grown hg4 hm bR0
      have hx4 := ex_grown hx0 hg4 hb0
      have s0 := cell_blk (i := 0) bR4 rfl
      have s1 := cell_blk (i := 1) bR4 rfl
      have y0 := frozen_blk (i := 0) bR4
      have y1 := frozen_blk (i := 1) bR4
      clear hg4 hm4 bR0 hx0 hE hm hq
      have bR5 := blk_set_eq (i := 1) (u := .slice none 0 0) (blk_set_eq (i := 0) (u := .slice none 0 0) bR4)
      have hx5 := ex_set_new (i := 1) (u := .slice none 0 0) (g := w.heap.size + 1 + 1 + 1) (ex_set_new (i := 0) (u := .slice none 0 0) (g := w.heap.size + 1 + 1 + 1) hx4 (by omega)) (by omega)
      go_wp2
      generalize (w4.setCell ⟨w.heap.size + 1 + 1 + 1, 0, none⟩ (.slice none 0 0)).setCell ⟨w.heap.size + 1 + 1 + 1, 1, none⟩ (.slice none 0 0) = w5 at *
      have t0 := cell_blk (i := 0) bR5 rfl
      have t1 := cell_blk (i := 1) bR5 rfl
      exact bodyPost_ret (v := .tuple #[.agg #[.slice none 0 0, .slice none 0 0], .int .i64 60]) (by simp [results, Tryz.results122, go_sem, t0, t1]) rfl ⟨none, 0, none, 0, [], rfl, hx5, own_zero⟩
  rw [← hab, hAB, if_neg (by decide)] at hue
  have hres : linkRes gr ((k : Int), g) ((j : Int), x2) p = ⟨gr.sl, gr.ks.set k (put (nth [] gr.ks k) p ((j : Int), x2))⟩ := by
    rw [linkRes, hue, if_pos rfl, linkG, hra]
    show Gr.mk gr.sl (gr.ks.set ((k : Int)).toNat (put (nth [] gr.ks k) ((p : Int)).toNat ((j : Int), x2))) = _
    rw [Int.toNat_natCast, Int.toNat_natCast]
  rw [hue, hres]
  go_enter Tryz.func122, Tryz.ntmps122
  go_upto_region 9 with (go_at_call 162; refine (plus_post (ref2_is he (hG.ex sk0) (by simp only [blk_alloc]; simp [go_sem, ↓IntWalk.iteOmega]))).mono ?_; rintro e w' ⟨rfl, nx, rfl⟩)
  refine region_rels 5 lkS (lkΦ (plus (((((w.alloc (.cells #[.slice ao n cap, .slice (some ⟨kg, kf, none⟩) kn kcap] 27)).alloc (.cells #[.int .i64 (k : Int), .int .i64 g] 32)).alloc (.cells #[.int .i64 (j : Int), .int .i64 x2] 32)).alloc (.cells #[.slice none 0 0, .slice none 0 0] 27)).alloc (.cells #[.int .i64 (k : Int), .int .i64 g, .int .i64 (j : Int), .int .i64 x2] 32)) nx) ao n cap (some ⟨kg, kf, none⟩) kn kcap hs gr (j : Int) x2 (k : Int) g) (by kernel_rfl) (by kernel_rfl) (by decide) (lkΦ_mono (plus (((((w.alloc (.cells #[.slice ao n cap, .slice (some ⟨kg, kf, none⟩) kn kcap] 27)).alloc (.cells #[.int .i64 (k : Int), .int .i64 g] 32)).alloc (.cells #[.int .i64 (j : Int), .int .i64 x2] 32)).alloc (.cells #[.slice none 0 0, .slice none 0 0] 27)).alloc (.cells #[.int .i64 (k : Int), .int .i64 g, .int .i64 (j : Int), .int .i64 x2] 32)) nx) ao n cap (some ⟨kg, kf, none⟩) kn kcap hs gr (j : Int) x2 (k : Int) g) ?steps ?fin
  case steps =>
    refine ⟨?_, ?_, ?_, ?_, ?_, trivial⟩
    · intro a w' hg hfree hdeep
      obtain ⟨x, rfl⟩ := hg
      have f4_ := hfree 4 (by kernel_rfl)
      simp only [lkΦ, got] at f4_
      simp [go_sem] at f4_
      unfold Oper.wp
      simp [go_sem, execOp, Act.eval, ↓IntWalk.iteOmega, f4_]
      exact ⟨_, rfl, ex_refl _, by simp [lkΦ, upd]⟩
    · intro a w' hg hfree hdeep
      obtain ⟨x, rfl⟩ := hg
      have d0 := hdeep 0 (by kernel_rfl)
      simp only [lkΦ, got] at d0
      unfold Oper.wp
      simp [go_sem, execOp, Act.eval, ↓IntWalk.iteOmega, d0]
      refine (reacher_calls ao n cap _ kn kcap hs gr _ (hG.ex sk0)).mono ?_
      rintro e w1 ⟨p3, p4, p1, b, rfl, hw1, hE1, hb1, hm1⟩
      exact ⟨_, rfl, hw1, p3, p4, p1, b, by simp [upd], hE1, by rw [plus_size] at hb1; omega, hm1⟩
    · intro a w' hg hfree hdeep
      obtain ⟨x, rfl⟩ := hg
      have f6_ := hfree 6 (by kernel_rfl)
      simp only [lkΦ, got] at f6_
      simp [go_sem] at f6_
      unfold Oper.wp
      simp [go_sem, execOp, Act.eval, ↓IntWalk.iteOmega, f6_]
      exact ⟨_, rfl, ex_refl _, by simp [lkΦ, upd]⟩
    · intro a w' hg hfree hdeep
      obtain ⟨x, rfl⟩ := hg
      have d2 := hdeep 2 (by kernel_rfl)
      simp only [lkΦ, got] at d2
      simp at d2
      unfold Oper.wp
      simp [go_sem, execOp, Act.eval, ↓IntWalk.iteOmega, d2]
      exact ⟨_, rfl, ex_alloc (ex_refl _), _, by simp [upd]; rfl, by rw [blk_alloc, if_pos (by simp [go_sem])]⟩
    · intro a w' hg hfree hdeep
      obtain ⟨x, rfl⟩ := hg
      have f5_ := hfree 5 (by kernel_rfl)
      simp only [lkΦ, got] at f5_
      simp [go_sem] at f5_
      unfold Oper.wp
      simp [go_sem, execOp, Act.eval, ↓IntWalk.iteOmega, f5_]
      exact ⟨_, rfl, ex_refl _, by simp [lkΦ, upd]⟩
  case fin =>
    rintro t w' hg hΦ
    have r0 := hΦ 0 (by decide)
    obtain ⟨p3, p4, p1, b, r1, hE, hb, hm⟩ := hΦ 1 (by decide)
    have r2 := hΦ 2 (by decide)
    obtain ⟨q, r3, hq⟩ := hΦ 3 (by decide)
    have r4 := hΦ 4 (by decide)
    simp only [lkΦ] at r0 r2 r4
    simp only [putAll, List.take_succ_cons, List.take_zero, List.drop_succ_cons, List.drop_zero, r0, r1, r2, r3, r4]
    simp only [Act.put]
    simp only [List.setIfInBounds_toArray, List.set_cons_succ, List.set_cons_zero]
    clear hΦ r0 r1 r2 r3 r4
    have hx9 : ∃ y, (plus (((((w.alloc (.cells #[.slice ao n cap, .slice (some ⟨kg, kf, none⟩) kn kcap] 27)).alloc (.cells #[.int .i64 (k : Int), .int .i64 g] 32)).alloc (.cells #[.int .i64 (j : Int), .int .i64 x2] 32)).alloc (.cells #[.slice none 0 0, .slice none 0 0] 27)).alloc (.cells #[.int .i64 (k : Int), .int .i64 g, .int .i64 (j : Int), .int .i64 x2] 32)) nx) = plus w y := sk0
    have hb0 : w.heap.size ≤ b := by have := hb; simp [go_sem] at this ⊢; omega
    have zW : w.heap.size + 1 + 1 + 1 + 1 + 1 ≤ ((plus (((((w.alloc (.cells #[.slice ao n cap, .slice (some ⟨kg, kf, none⟩) kn kcap] 27)).alloc (.cells #[.int .i64 (k : Int), .int .i64 g] 32)).alloc (.cells #[.int .i64 (j : Int), .int .i64 x2] 32)).alloc (.cells #[.slice none 0 0, .slice none 0 0] 27)).alloc (.cells #[.int .i64 (k : Int), .int .i64 g, .int .i64 (j : Int), .int .i64 x2] 32)) nx)).heap.size := by rw [plus_size]; simp [go_sem]
    have zw := size_ex hg
    have bR9 : w'.heap[w.heap.size + 1 + 1 + 1]? = some (.cells #[.slice none 0 0, .slice none 0 0] 27) := blk_ex hg (blk_ex (ex_plus (ex_refl _)) (by simp only [blk_alloc]; simp [go_sem, ↓IntWalk.iteOmega]))
    have bP9 : w'.heap[w.heap.size + 1]? = some (.cells #[.int .i64 (k : Int), .int .i64 g] 32) := blk_ex hg (blk_ex (ex_plus (ex_refl _)) (by simp only [blk_alloc]; simp [go_sem, ↓IntWalk.iteOmega]))
    have bC9 : w'.heap[w.heap.size + 1 + 1]? = some (.cells #[.int .i64 (j : Int), .int .i64 x2] 32) := blk_ex hg (blk_ex (ex_plus (ex_refl _)) (by simp only [blk_alloc]; simp [go_sem, ↓IntWalk.iteOmega]))
    have bG9 : w'.heap[w.heap.size]? = some (.cells #[.slice ao n cap, .slice (some ⟨kg, kf, none⟩) kn kcap] 27) := blk_ex hg (blk_ex (ex_plus (ex_refl _)) (by simp only [blk_alloc]; simp [go_sem, ↓IntWalk.iteOmega]))
    go_upto_region 11 with (go_at_call 170; refine (reach2 p3 p4 p1 b ao n cap _ kn kcap hs gr hK k g hh _ _ _ [((j : Int), x2)] _ hE hm (lay_one hq) (by decide) (fun x hx => by rw [List.mem_singleton] at hx; rw [hx]; exact hh2)).mono ?_; rintro e w4 ⟨rfl, hg4, hm4⟩; rw [hAB])
    have bR4 := blk_grown hg4 hm bR9
    have bP4 := blk_grown hg4 hm bP9
    have bC4 := blk_grown hg4 hm bC9
    have bG4 := blk_grown hg4 hm bG9
    have hx4 := ex_grown (ex_trans hx9 hg) hg4 hb0
    have z4 : w.heap.size + 1 + 1 + 1 + 1 + 1 ≤ w4.heap.size := by have := hg4.size; omega
    clear hg4 hm4 bR9 bP9 bC9 bG9 hx9 hE hm hq hg hb zW zw
    have g0 := cell_blk (i := 0) bG4 rfl
    have g1 := cell_blk (i := 1) bG4 rfl
    have lg4 := blk_lt bG4
    go_upto_region 12 with (go_at_call 39; refine (ntwin2_calls _ _ _ _ _ _ hs gr _ (hG.ex hx4)).mono ?_; rintro e w1 ⟨a1, c1', ka, kc, hs1, rfl, hw1, og, hap⟩)
    have hx2 : ∃ y, w1.alloc (.cells #[.slice a1 n c1', .slice ka kn kc] 27) = plus w y := sn0
    have hx2T : ∃ y, w1.alloc (.cells #[.slice a1 n c1', .slice ka kn kc] 27) = plus w4 y := ex_alloc hw1
    have z1 := size_ex hw1
    have bL0 : (w1.alloc (.cells #[.slice a1 n c1', .slice ka kn kc] 27)).heap[w1.heap.size]? = some (.cells #[.slice a1 n c1', .slice ka kn kc] 27) := by rw [blk_alloc, if_pos rfl]
    have bP2 := blk_ex (w' := w1.alloc (.cells #[.slice a1 n c1', .slice ka kn kc] 27)) hx2T bP4
    have bC2 := blk_ex (w' := w1.alloc (.cells #[.slice a1 n c1', .slice ka kn kc] 27)) hx2T bC4
    have bR0 := blk_ex (w' := w1.alloc (.cells #[.slice a1 n c1', .slice ka kn kc] 27)) hx2T bR4
    have og2 := (og.ex (ex_alloc (o := (.cells #[.slice a1 n c1', .slice ka kn kc] 27)) (ex_refl w1)))
    clear og hw1 bR4 bP4 bC4 bG4 g0 g1 hx4
    generalize w1.alloc (.cells #[.slice a1 n c1', .slice ka kn kc] 27) = w2 at *
    obtain ⟨kb, cu, rfl, hkb, hkbb, _⟩ := og2.kh.blk (by omega)
    have okh := og2.kh
    have hl2 := okh.1
    have orow0 := og2.row k (by omega)
    have hrn : (nth dRH hs1 k).n = (nth dRH hs k).n := orow0.1.symm.trans hrl
    generalize hre : nth dRH hs1 k = r at *
    obtain ⟨ra, rn, rc⟩ := r
    simp only at hrn orow0
    subst hrn
    have orow := orow0
    have hgq : ∀ q, Value.ownBlock (.slice ra (nth dRH hs k).n rc) = some q → q < w2.heap.size ∧ w4.heap.size ≤ q ∧ ra = some ⟨q, 0, none⟩ ∧ ∃ cur, w2.heap[q]? = some (.cells cur 32) := own_block orow
    have nL : some w1.heap.size ≠ Value.ownBlock (.slice ra (nth dRH hs k).n rc) := fun e => by obtain ⟨_, _, _, cur, hb⟩ := hgq _ e.symm; rw [hb] at bL0; cases bL0
    have nH : some (w.heap.size + 1) ≠ Value.ownBlock (.slice ra (nth dRH hs k).n rc) := fun e => by have := hgq _ e.symm; omega
    have nC : some (w.heap.size + 1 + 1) ≠ Value.ownBlock (.slice ra (nth dRH hs k).n rc) := fun e => by have := hgq _ e.symm; omega
    have nR : some (w.heap.size + 1 + 1 + 1) ≠ Value.ownBlock (.slice ra (nth dRH hs k).n rc) := fun e => by have := hgq _ e.symm; omega
    have nK : some kb ≠ Value.ownBlock (.slice ra (nth dRH hs k).n rc) := fun e => by obtain ⟨_, _, _, cur, hb⟩ := hgq _ e.symm; rw [hb] at hkbb; cases hkbb
    refine region_relD 15 lnS (lnΦ w4 (Value.ownBlock (.slice ra (nth dRH hs k).n rc)) w1.heap.size kb kn kc (w.heap.size + 1) k ra (nth dRH hs k).n rc p (j : Int) x2 (nth [] gr.ks k)) (Turn 13 (Value.ownBlock (.slice ra (nth dRH hs k).n rc))) turn_trans (turn_draw _) (by kernel_rfl) (by kernel_rfl) (by decide) (lnΦ_mono w4 (Value.ownBlock (.slice ra (nth dRH hs k).n rc)) w1.heap.size kb kn kc (w.heap.size + 1) k ra (nth dRH hs k).n rc p (j : Int) x2 (nth [] gr.ks k) ) ?steps ?fin
    case steps =>
      refine ⟨?_, ?_, ?_, ?_, ?_, ?_, ?_, ?_, ?_, ?_, ?_, ?_, ?_, ?_, ?_, trivial⟩
      · intro a D w' hg hfree hdeep hD
        have f12_ := hfree 12 (by kernel_rfl)
        simp only [lnΦ, got] at f12_
        simp [go_sem] at f12_
        unfold Oper.wp
        simp [go_sem, execOp, Act.eval, ↓IntWalk.iteOmega, f12_]
        exact ⟨_, rfl, turn_grow (ex_refl _), by simp [lnΦ, upd]⟩
      · intro a D w' hg hfree hdeep hD
        have d0 := hdeep 0 (by kernel_rfl)
        simp only [lnΦ, got] at d0
        simp [go_sem] at d0
        have c1_ := cell_blk (i := 1) (turn_blk hg (nL) bL0) rfl
        unfold Oper.wp
        simp [go_sem, execOp, Act.eval, ↓IntWalk.iteOmega, d0, c1_]
        exact ⟨_, rfl, turn_grow (ex_refl _), by simp [lnΦ, upd]⟩
      · intro a D w' hg hfree hdeep hD
        have f5_ := hfree 5 (by kernel_rfl)
        simp only [lnΦ, got] at f5_
        simp [go_sem] at f5_
        unfold Oper.wp
        simp [go_sem, execOp, Act.eval, ↓IntWalk.iteOmega, f5_]
        exact ⟨_, rfl, turn_grow (ex_refl _), by simp [lnΦ, upd]⟩
      · intro a D w' hg hfree hdeep hD
        have d2 := hdeep 2 (by kernel_rfl)
        simp only [lnΦ, got] at d2
        simp [go_sem] at d2
        have c1_ := cell_blk (i := 0) (turn_blk hg (nH) bP2) rfl
        unfold Oper.wp
        simp [go_sem, execOp, Act.eval, ↓IntWalk.iteOmega, d2, c1_]
        exact ⟨_, rfl, turn_grow (ex_refl _), by simp [lnΦ, upd]⟩
      · intro a D w' hg hfree hdeep hD
        have f12_ := hfree 12 (by kernel_rfl)
        simp only [lnΦ, got] at f12_
        simp [go_sem] at f12_
        unfold Oper.wp
        simp [go_sem, execOp, Act.eval, ↓IntWalk.iteOmega, f12_]
        exact ⟨_, rfl, turn_grow (ex_refl _), by simp [lnΦ, upd]⟩
      · intro a D w' hg hfree hdeep hD
        have d4 := hdeep 4 (by kernel_rfl)
        simp only [lnΦ, got] at d4
        simp [go_sem] at d4
        have c1_ := cell_blk (i := 1) (turn_blk hg (nL) bL0) rfl
        unfold Oper.wp
        simp [go_sem, execOp, Act.eval, ↓IntWalk.iteOmega, d4, c1_]
        exact ⟨_, rfl, turn_grow (ex_refl _), by simp [lnΦ, upd]⟩
      · intro a D w' hg hfree hdeep hD
        have f5_ := hfree 5 (by kernel_rfl)
        simp only [lnΦ, got] at f5_
        simp [go_sem] at f5_
        unfold Oper.wp
        simp [go_sem, execOp, Act.eval, ↓IntWalk.iteOmega, f5_]
        exact ⟨_, rfl, turn_grow (ex_refl _), by simp [lnΦ, upd]⟩
      · intro a D w' hg hfree hdeep hD
        have d6 := hdeep 6 (by kernel_rfl)
        simp only [lnΦ, got] at d6
        simp [go_sem] at d6
        have c1_ := cell_blk (i := 0) (turn_blk hg (nH) bP2) rfl
        unfold Oper.wp
        simp [go_sem, execOp, Act.eval, ↓IntWalk.iteOmega, d6, c1_]
        exact ⟨_, rfl, turn_grow (ex_refl _), by simp [lnΦ, upd]⟩
      · intro a D w' hg hfree hdeep hD
        have d5 := hdeep 5 (by kernel_rfl)
        have d7 := hdeep 7 (by kernel_rfl)
        simp only [lnΦ, got] at d5 d7
        simp [go_sem] at d5 d7
        unfold Oper.wp
        simp [go_sem, execOp, Act.eval, ↓IntWalk.iteOmega, d5, d7, ik]
        exact ⟨_, rfl, turn_grow (ex_refl _), by simp [lnΦ, upd]⟩
      · intro a D w' hg hfree hdeep hD
        have d8 := hdeep 8 (by kernel_rfl)
        simp only [lnΦ, got] at d8
        simp [go_sem] at d8
        have ck := lay_cell (own_turn' okh hg nK).lay hkl
        rw [hre] at ck
        unfold Oper.wp
        simp [go_sem, execOp, Act.eval, ↓IntWalk.iteOmega, d8, ck]
        exact ⟨_, rfl, turn_grow (ex_refl _), by simp [lnΦ, upd]⟩
      · intro a D w' hg hfree hdeep hD
        have f3_ := hfree 3 (by kernel_rfl)
        simp only [lnΦ, got] at f3_
        simp [go_sem] at f3_
        unfold Oper.wp
        simp [go_sem, execOp, Act.eval, ↓IntWalk.iteOmega, f3_]
        exact ⟨_, rfl, turn_grow (ex_refl _), by simp [lnΦ, upd]⟩
      · intro a D w' hg hfree hdeep hD
        have f6_ := hfree 6 (by kernel_rfl)
        simp only [lnΦ, got] at f6_
        simp [go_sem] at f6_
        have c1_ := cell_blk (i := 0) (turn_blk hg (nC) bC2) rfl
        have c2_ := cell_blk (i := 1) (turn_blk hg (nC) bC2) rfl
        unfold Oper.wp
        simp [go_sem, execOp, Act.eval, ↓IntWalk.iteOmega, f6_, c1_, c2_]
        exact ⟨_, rfl, turn_grow (ex_refl _), by simp [lnΦ, upd]⟩
      · intro a D w' hg hfree hdeep hD
        have d11 := hdeep 11 (by kernel_rfl)
        simp only [lnΦ, got] at d11
        simp [go_sem] at d11
        unfold Oper.wp
        simp [go_sem, execOp, Act.eval, ↓IntWalk.iteOmega, d11]
        exact ⟨_, rfl, turn_grow (ex_alloc (ex_refl _)), w'.heap.size, by simp [upd], by rw [blk_alloc, if_pos (by simp [go_sem])], fun e => by have := hgq _ e.symm; have := hg.grow.size; omega⟩
      · intro a D w' hg hfree hdeep hD
        have d9 := hdeep 9 (by kernel_rfl)
        have d10 := hdeep 10 (by kernel_rfl)
        obtain ⟨q, e12, hq, hqn⟩ : ∃ q, got a 61 = .slice (some ⟨q, 0, none⟩) 1 1 ∧ _ := hdeep 12 (by kernel_rfl)
        simp only [lnΦ, got] at d9 d10
        simp [go_sem] at d9 d10
        have g12 := e12
        simp only [got] at g12
        simp at g12
        obtain ⟨x, rfl⟩ := turn_ahead hg hD
        unfold Oper.wp
        simp [go_sem, execOp, Act.eval, ↓IntWalk.iteOmega, d9, d10, g12]
        refine (insH w4 _ ra _ rc (nth [] gr.ks k) p q 1 _ _ (ex_plus hx2T) (orow.ex ⟨x, rfl⟩) (by omega) (by omega) hq (fun a_ ha e => hqn (by rw [ha, ← e]; rfl))).mono ?_
        rintro e w1' ⟨ao', cap', rfl, hg1, o1⟩
        exact ⟨_, rfl, turn_do hg1 hD, ao', cap', by simp [upd], o1, also_self' 13⟩
      · intro a D w' hg hfree hdeep hD
        have d1 := hdeep 1 (by kernel_rfl)
        have d3 := hdeep 3 (by kernel_rfl)
        simp only [lnΦ, got] at d1 d3
        simp [go_sem] at d1 d3
        unfold Oper.wp
        simp [go_sem, execOp, Act.eval, ↓IntWalk.iteOmega, d1, d3, ik]
        exact ⟨_, rfl, turn_grow (ex_refl _), by simp [lnΦ, upd]⟩
    case fin =>
      rintro t D w9 hDa hg hΦ
      have r0 := hΦ 0 (by decide)
      have r1 := hΦ 1 (by decide)
      have r2 := hΦ 2 (by decide)
      have r3 := hΦ 3 (by decide)
      have r4 := hΦ 4 (by decide)
      have r5 := hΦ 5 (by decide)
      have r6 := hΦ 6 (by decide)
      have r7 := hΦ 7 (by decide)
      have r8 := hΦ 8 (by decide)
      have r9 := hΦ 9 (by decide)
      have r10 := hΦ 10 (by decide)
      have r11 := hΦ 11 (by decide)
      skip
      have r14 := hΦ 14 (by decide)
      simp only [lnΦ] at r0 r1 r2 r3 r4 r5 r6 r7 r8 r9 r10 r11 r14
      obtain ⟨ao', cap', r13, o9, hD9⟩ := hΦ 13 (by decide); obtain ⟨qq, r12, _, _⟩ := hΦ 12 (by decide)
      simp only [putAll, List.take_succ_cons, List.take_zero, List.drop_succ_cons, List.drop_zero, r0, r1, r2, r3, r4, r5, r6, r7, r8, r9, r10, r11, r12, r13, r14]
      simp only [Act.put]
      simp only [List.setIfInBounds_toArray, List.set_cons_succ, List.set_cons_zero]
      clear hΦ r0 r1 r2 r3 r4 r5 r6 r7 r8 r9 r10 r11 r12 r13 r14
      have bK9 := turn_blk hg nK hkbb
      have ck9 := lay_cell (own_turn' okh hg nK).lay hkl
      have zk9 := frozen_blk (i := k) bK9
      have lk9 := blk_lt bK9
      have og3 := og2.upd (r := ⟨ao', ((nth dRH hs k).n + 1), cap'⟩) (l := put (nth [] gr.ks k) p ((j : Int), x2)) hap hkl hg.grow (fun q hq => by rw [hre]; exact (hgq q hq).2.2.1) o9
      have bL9 := turn_blk hg nL bL0
      have bR9 := turn_blk hg nR bR0
      have hx9 : ∃ y, w9 = plus w y := turn_ex hg hx2 (fun q hq => by have := hgq q hq; omega)
      have nKL : kb ≠ w1.heap.size := fun e => by rw [← e, hkbb] at bL0; cases bL0
      have nKR : kb ≠ w.heap.size + 1 + 1 + 1 := fun e => by rw [← e, hkbb] at bR0; cases bR0
      go_upto_region 13 with fail
      have bL10 : (w9.setCell ⟨kb, k, none⟩ (.slice ao' ((nth dRH hs k).n + 1) cap')).heap[w1.heap.size]? = some (.cells #[.slice a1 n c1', .slice (some ⟨kb, 0, none⟩) kn kc] 27) := (blk_set_ne nKL).trans bL9
      have bR10 : (w9.setCell ⟨kb, k, none⟩ (.slice ao' ((nth dRH hs k).n + 1) cap')).heap[w.heap.size + 1 + 1 + 1]? = some (.cells #[.slice none 0 0, .slice none 0 0] 27) := (blk_set_ne nKR).trans bR9
      have hx10 : ∃ y, w9.setCell ⟨kb, k, none⟩ (.slice ao' ((nth dRH hs k).n + 1) cap') = plus w y := ex_set_new hx9 (by omega)
      simp only at og3
      refine name_world (fun w' => GrOwn w4 w' a1 n c1' (some ⟨kb, 0, none⟩) kn kc (hs1.set k ⟨ao', ((nth dRH hs k).n + 1), cap'⟩) ⟨gr.sl, gr.ks.set k (put (nth [] gr.ks k) p ((j : Int), x2))⟩ ∧ w'.heap[w1.heap.size]? = some (.cells #[.slice a1 n c1', .slice (some ⟨kb, 0, none⟩) kn kc] 27) ∧ w'.heap[w.heap.size + 1 + 1 + 1]? = some (.cells #[.slice none 0 0, .slice none 0 0] 27) ∧ ∃ y, w' = plus w y) ⟨og3, bL10, bR10, hx10⟩ ?_
      clear og3 bL10 bR10 hx10 bK9 ck9 zk9 lk9 bL9 bR9 hx9 hg o9 okh orow og2 bL0 bR0 hx2 hkbb
      rintro w4 ⟨og4, bL4, bR4, hx4⟩
      have q0 := cell_blk (i := 0) bL4 rfl
      have q1 := cell_blk (i := 1) bL4 rfl
      have s0 := cell_blk (i := 0) bR4 rfl
      have s1 := cell_blk (i := 1) bR4 rfl
      have y0 := frozen_blk (i := 0) bR4
      have y1 := frozen_blk (i := 1) bR4
      have lL4 := blk_lt bL4
      have lR4 := blk_lt bR4
      have og5 := (og4.set_other (i := 0) (u := .slice a1 n c1') bR4 (by decide) (by decide) (by decide)).set_other (i := 1) (u := .slice (some ⟨kb, 0, none⟩) kn kc) (blk_set_eq bR4) (by decide) (by decide) (by decide)
      have bR5 := blk_set_eq (i := 1) (u := .slice (some ⟨kb, 0, none⟩) kn kc) (blk_set_eq (i := 0) (u := .slice a1 n c1') bR4)
      have hx5 := ex_set_new (i := 1) (u := .slice (some ⟨kb, 0, none⟩) kn kc) (g := w.heap.size + 1 + 1 + 1) (ex_set_new (i := 0) (u := .slice a1 n c1') (g := w.heap.size + 1 + 1 + 1) hx4 (by omega)) (by omega)
      clear og4
      go_wp2
      generalize (w4.setCell ⟨w.heap.size + 1 + 1 + 1, 0, none⟩ (.slice a1 n c1')).setCell ⟨w.heap.size + 1 + 1 + 1, 1, none⟩ (.slice (some ⟨kb, 0, none⟩) kn kc) = w5 at *
      have t0 := cell_blk (i := 0) bR5 rfl
      have t1 := cell_blk (i := 1) bR5 rfl
      have hlk : (gr.ks.set k (put (nth [] gr.ks k) p ((j : Int), x2))).length = kn := by rw [List.length_set, hlen]
      have hpost : RetG w ⟨gr.sl, gr.ks.set k (put (nth [] gr.ks k) p ((j : Int), x2))⟩ 0 (.returned (.tuple #[.agg #[.slice a1 n c1', .slice (some ⟨kb, 0, none⟩) kn kc], .int .i64 0])) w5 := by
        refine ⟨a1, c1', some ⟨kb, 0, none⟩, kc, hs1.set k ⟨ao', ((nth dRH hs k).n + 1), cap'⟩, ?_, hx5, ?_⟩
        · show Ending.returned (.tuple #[.agg #[.slice a1 n c1', .slice (some ⟨kb, 0, none⟩) kn kc], .int .i64 0]) = .returned (.tuple #[.agg #[.slice a1 gr.sl.length c1', .slice (some ⟨kb, 0, none⟩) (gr.ks.set k (put (nth [] gr.ks k) p ((j : Int), x2))).length kc], .int .i64 0])
          rw [hlk, hsl]
        · show GrOwn w w5 a1 gr.sl.length c1' (some ⟨kb, 0, none⟩) (gr.ks.set k (put (nth [] gr.ks k) p ((j : Int), x2))).length kc _ _
          rw [hlk, hsl]
          exact og5.base (by omega)
      exact bodyPost_ret (v := .tuple #[.agg #[.slice a1 n c1', .slice (some ⟨kb, 0, none⟩) kn kc], .int .i64 0]) (by simp [results, Tryz.results122, go_sem, t0, t1]) rfl hpost

end

/- What slices.DeleteFunc gives of handles, where one is taken out. -/
section

open Go.RowKit Go.ChangeShapes Go.WideShapes Go.ChangeAt

set_option linter.unusedSimpArgs false

set_option linter.unusedVariables false

attribute [local go_sem] plus_size plus_drew dn_set dn_alloc dn_plus plus_dn cell_plus frozen_plus set_plus cell_alloc frozen_alloc set_alloc

theorem killP (p : Nat) (a b s g : Int) (w : World) (hp : w.heap[p]? = some (.cells #[.int .i64 s, .int .i64 g] 32)) {r : Bool} (hr : decide ((a, b) = (s, g)) = r) :
    Calls Tryz.prog 167 #[.agg #[.int .i64 a, .int .i64 b], .pointer (some ⟨p, 0, none⟩)] w fun e w' => e = .returned (.bool r) ∧ Below w.heap.size w w' := by
  subst hr
  have c0 := cell_blk (i := 0) hp rfl
  have c1 := cell_blk (i := 1) hp rfl
  have lp := blk_lt hp
  by_cases e0 : a = s
  · by_cases e1 : b = g
    · go_enter Tryz.func167, Tryz.ntmps167
      go_wp2
      go_ret
      exact ⟨by simp [e0, e1], skB⟩
    · have d1 : (b == g) = false := by rw [beq_eq_false_iff_ne]; exact e1
      go_enter Tryz.func167, Tryz.ntmps167
      go_wp2
      go_ret
      exact ⟨by simp [e1], skB⟩
  · have d0 : (a == s) = false := by rw [beq_eq_false_iff_ne]; exact e0
    go_enter Tryz.func167, Tryz.ntmps167
    go_wp2
    go_ret
    exact ⟨by simp [e0], skB⟩

set_option maxRecDepth 100000 in
set_option maxHeartbeats 4000000 in
theorem idxD (p : Nat) (s g : Int) (fo : Option Addr) (fn fcap : Nat) (fl : List (Int × Int)) (w : World) (hp : w.heap[p]? = some (.cells #[.int .i64 s, .int .i64 g] 32)) (hL : Lay f2 w fo fn fl) (hfn : fn ≤ 1000) :
    Calls Tryz.prog 171 #[.slice fo fn fcap, .func (.func 167) #[] #[.pointer (some ⟨p, 0, none⟩)]] w fun e w' => ∃ v : Int, e = .returned (.int .i64 v) ∧ (∃ y, w' = plus w y) ∧ ((v = -1 ∧ ∀ j, j < fn → nth (0, 0) fl j ≠ (s, g)) ∨ ∃ k : Nat, v = k ∧ k < fn ∧ nth (0, 0) fl k = (s, g) ∧ ∀ j, j < k → nth (0, 0) fl j ≠ (s, g)) := by
  go_enter Tryz.func171, Tryz.ntmps171
  go_wp2
  go_loopw [8] (fun i_ wr => ∃ k : Nat, k ≤ fn ∧ i_ = .int .i64 k ∧ (∃ y, wr = plus w y) ∧ (∀ j, j < k → nth (0, 0) fl j ≠ (s, g))) (fun i_ _ => fn - (intOf i_).toNat)
  case atStart => exact ⟨0, Nat.zero_le _, rfl, sk0, fun j hj => by omega⟩
  case round =>
    obtain ⟨k, hk, rfl, ⟨x, rfl⟩, hno⟩ := hrel
    by_cases hkl : k < fn
    rotate_left
    · have ik : ¬ (k : Int) < (fn : Int) := by omega
      obtain rfl : k = fn := by omega
      go_wp2
      go_ret
      exact ⟨-1, rfl, ⟨x, rfl⟩, .inl ⟨rfl, hno⟩⟩
    have ik : (k : Int) < (fn : Int) := by omega
    obtain ⟨fg, ff, rfl, hfg, hfc⟩ := hL.some (by omega)
    obtain ⟨c0, c1⟩ := cell2 hL.len hfc hkl
    cases hA : decide (((nth ((0, 0) : Int × Int) fl k).1, (nth ((0, 0) : Int × Int) fl k).2) = (s, g))
    · go_wp2_with (go_at_call 167; refine (plus_post (killP p _ _ s g _ (blk_ex sk0 hp) hA)).mono ?_; rintro e w' ⟨rfl, nx, rfl⟩)
      go_roundw
      case rel => exact ⟨k + 1, by omega, by go_num, sk0, upto_succ hno (of_decide_eq_false hA)⟩
      case measure => simp [intOf]; omega
    · go_wp2_with (go_at_call 167; refine (plus_post (killP p _ _ s g _ (blk_ex sk0 hp) hA)).mono ?_; rintro e w' ⟨rfl, nx, rfl⟩)
      go_ret
      exact ⟨k, rfl, sk0, .inr ⟨k, rfl, hkl, of_decide_eq_true hA, hno⟩⟩

theorem without_step {h : Int × Int} {l : List (Int × Int)} {j : Nat} (hj : j < l.length) : without h (l.take (j + 1)) = without h (l.take j) ++ (if nth (0, 0) l j = h then [] else [nth (0, 0) l j]) := by
  rw [take_nth (d := ((0, 0) : Int × Int)) hj, without, List.filter_append]
  congr 1
  by_cases e : nth (0, 0) l j = h
  · rw [if_pos e]; simp [e]
  · rw [if_neg e]; simp [e]

theorem without_none {h : Int × Int} {l : List (Int × Int)} {j : Nat} (hj : ∀ k, k < j → nth (0, 0) l k ≠ h) (hl : j ≤ l.length) : without h (l.take j) = l.take j := by
  rw [without, List.filter_eq_self]
  intro x hx
  obtain ⟨k, hk, rfl⟩ := List.getElem_of_mem hx
  rw [List.length_take] at hk
  have := hj k (by omega)
  rw [nth_eq (by omega)] at this
  rw [List.getElem_take]
  simp [this]

def RetD (T w : World) (ao : Option Addr) (n cap : Nat) (l : List (Int × Int)) (e : Ending) (w' : World) : Prop := e = .returned (.slice ao l.length cap) ∧ w.grownBy w' (Value.ownBlock (.slice ao n cap)) ∧ Own 32 2 f2 T w' ao l.length cap l

set_option maxRecDepth 100000 in
set_option maxHeartbeats 8000000 in
theorem delF (T w : World) (ao : Option Addr) (n cap : Nat) (l : List (Int × Int)) (p : Nat) (s g : Int) (h : Own 32 2 f2 T w ao n cap l) (hn : n ≤ 1000) (hp : w.heap[p]? = some (.cells #[.int .i64 s, .int .i64 g] 32)) (hpT : p < T.heap.size) :
    Calls Tryz.prog 166 #[.slice ao n cap, .func (.func 167) #[] #[.pointer (some ⟨p, 0, none⟩)]] w fun e w' => RetD T w ao n cap (without (s, g) l) e w' := by
  have hl := h.1
  by_cases hany : ∃ k, k < n ∧ nth (0, 0) l k = (s, g)
  rotate_left
  · have hw : without (s, g) l = l := by
      have := without_none (h := (s, g)) (l := l) (j := l.length) (fun k hk e => hany ⟨k, by omega, e⟩) (Nat.le_refl _)
      rwa [List.take_length] at this
    rw [hw]
    go_enter Tryz.func166, Tryz.ntmps166
    go_wp2_with (go_at_call 171; refine (idxD p s g _ _ _ l _ hp h.lay hn).mono ?_; rintro e w1 ⟨v, rfl, hw1, hv⟩; obtain rfl : v = -1 := hv.elim (fun h => h.1) (fun ⟨k, _, hk, he, _⟩ => absurd ⟨k, hk, he⟩ hany))
    go_ret
    exact ⟨by rw [hl]; rfl, grown_ex' _ hw1, by rw [hl]; exact h.ex hw1⟩
  obtain ⟨k1, hk1, hk2⟩ := hany
  obtain ⟨gb, cg, rfl, hgT, hgb, _⟩ := h.blk (by omega)
  have hnp : p ≠ gb := by omega
  have hcap := h.cap_le
  go_enter Tryz.func166, Tryz.ntmps166
  go_upto_region 5 with (go_at_call 171; refine (idxD p s g _ _ _ l _ hp h.lay hn).mono ?_; rintro e w1 ⟨v, rfl, hw1, hv⟩; obtain ⟨k0, rfl, hk0, hke, hkn⟩ : ∃ k : Nat, v = k ∧ k < n ∧ nth (0, 0) l k = (s, g) ∧ ∀ j, j < k → nth (0, 0) l j ≠ (s, g) := hv.elim (fun h => absurd hk2 (h.2 k1 hk1)) id; have dm : ((k0 : Int) == -1) = false := (by rw [beq_eq_false_iff_ne]; omega); have iwk : IntKind.i64.wrap ((k0 : Int) + 1) = (k0 : Int) + 1 := wrap_le (by omega))
  have hwk := without_none (h := (s, g)) (l := l) (j := k0) hkn (by omega)
  have hws := without_step (h := (s, g)) (l := l) (j := k0) (by omega)
  rw [hwk, hke, if_pos rfl, List.append_nil] at hws
  have h1 := h.ex hw1
  have hp1 := blk_ex hw1 hp
  have hg1 := grown_ex' (some gb) hw1
  go_loopw [5, 6] (fun a_ b_ wr => ∃ (i j : Nat) (L : List (Int × Int)), i < j ∧ j ≤ n ∧ a_ = .int .i64 i ∧ b_ = .int .i64 j ∧ w.grownBy wr (some gb) ∧ wr.heap[p]? = some (.cells #[.int .i64 s, .int .i64 g] 32) ∧ Own 32 2 f2 T wr (some ⟨gb, 0, none⟩) n cap L ∧ L.take i = without (s, g) (l.take j) ∧ (∀ k, j ≤ k → nth (0, 0) L k = nth (0, 0) l k)) (fun _ b_ _ => n - (intOf b_).toNat)
  case atStart => exact ⟨k0, k0 + 1, l, by omega, by omega, rfl, by go_num, hg1, hp1, h1, hws.symm, fun k _ => rfl⟩
  case round =>
    clear h1 hp1 hg1 hws hwk
    obtain ⟨i, j, L, hij, hjn, rfl, rfl, hg, hpw, hO, hLt, hLk⟩ := hrel
    have hLl := hO.1
    by_cases hjl : j < n
    rotate_left
    · have ij : ¬ (j : Int) < (n : Int) := by omega
      obtain rfl : j = n := by omega
      obtain ⟨w3, hcl, hg3, o3⟩ := run_clear_own hO (i := i) (k := j - i) (by omega) (by omega) (by omega)
      have hcl' := hcl 0 (cap - i)
      clear hcl
      have i1 : (i : Int) ≤ (j : Int) := by omega
      have i2 : (0 : Int) ≤ (i : Int) := by omega
      have i3 : (i : Int) ≤ (cap : Int) := by omega
      have i4 : ¬ cap = i := by omega
      rw [hLt, List.take_of_length_le (by omega)] at o3
      have hwl := o3.1
      go_wp2
      go_ret
      exact ⟨by rw [hwl]; rfl, hg.trans hg3, by rw [hwl]; exact o3⟩
    have ij : (j : Int) < (n : Int) := by omega
    have lpw := blk_lt hpw
    obtain ⟨x0, x1⟩ := cell2 hLl (lay_at hO.lay (by omega)) hjl
    rw [Nat.zero_add] at x0 x1
    obtain ⟨y0, y1⟩ := cell2 hLl (lay_at hO.lay (by omega)) (k := i) (by omega)
    rw [Nat.zero_add] at y0 y1
    obtain ⟨cu, hcu, _⟩ := own_cur hO
    have lcu := blk_lt hcu
    have z0 := frozen_blk (i := i * 2) hcu
    have z1 := frozen_blk (i := i * 2 + 1) hcu
    rw [hLk j (Nat.le_refl _)] at x0 x1
    have hstep := without_step (h := (s, g)) (l := l) (j := j) (by omega)
    have ii : (i : Int) < (n : Int) := by omega
    have iwj : IntKind.i64.wrap ((j : Int) + 1) = (j : Int) + 1 := wrap_le (by omega)
    have iwi : IntKind.i64.wrap ((i : Int) + 1) = (i : Int) + 1 := wrap_le (by omega)
    cases hA : decide (((nth ((0, 0) : Int × Int) l j).1, (nth ((0, 0) : Int × Int) l j).2) = (s, g))
    rotate_left
    · rw [if_pos (of_decide_eq_true hA), List.append_nil] at hstep
      go_wp2_with (go_at_call 167; refine (plus_post (killP p _ _ s g _ (blk_ex sk0 hpw) hA)).mono ?_; rintro e w' ⟨rfl, nx, rfl⟩)
      go_roundw
      case rel => exact ⟨i, j + 1, L, by omega, by omega, rfl, by go_num, hg.trans (grown_ex' _ sk0), blk_ex sk0 hpw, hO.ex sk0, by rw [hstep]; exact hLt, fun k hk => hLk k (by omega)⟩
      case measure => simp [intOf]; omega
    rw [if_neg (of_decide_eq_false hA)] at hstep
    go_upto_region 9 with (go_at_call 167; refine (plus_post (killP p _ _ s g _ (blk_ex sk0 hpw) hA)).mono ?_; rintro e w' ⟨rfl, nx, rfl⟩)
    refine name_world (fun w0 => (∃ y, w0 = plus wr y) ∧ w0.heap[wr.heap.size]? = some (.cells #[.int .i64 (nth (0, 0) l j).1, .int .i64 (nth (0, 0) l j).2] 32)) ⟨sk0, blk_ex (ex_plus (ex_refl _)) (by rw [blk_alloc, if_pos rfl])⟩ ?_
    rintro w0 ⟨hx0, hbv⟩
    have hO0 := hO.ex hx0
    have hcu0 := blk_ex hx0 hcu
    have y0' := cell_ex hx0 y0
    have y1' := cell_ex hx0 y1
    have z0' := frozen_blk (i := i * 2) hcu0
    have z1' := frozen_blk (i := i * 2 + 1) hcu0
    have v0 := cell_blk (i := 0) hbv rfl
    have v1 := cell_blk (i := 1) hbv rfl
    have lv := blk_lt hbv
    have lc0 := blk_lt hcu0
    have s1 := hO0.set_self (u := .int .i64 (nth (0, 0) l j).1) i 0 ((nth (0, 0) l j).1, (nth (0, 0) L i).2) (0, 0) (by omega) f2_c (by decide) rfl
    have s2 := s1.set_self (u := .int .i64 (nth (0, 0) l j).2) i 1 (nth (0, 0) l j) (0, 0) (by omega) f2_c (by decide) (by rw [nth_set (by omega), if_pos rfl]; rfl)
    rw [Nat.add_zero, List.set_set] at s2
    have hgs : w0.grownBy ((w0.setCell ⟨gb, i * 2, none⟩ (.int .i64 (nth (0, 0) l j).1)).setCell ⟨gb, i * 2 + 1, none⟩ (.int .i64 (nth (0, 0) l j).2)) (some gb) := ⟨rfl, rfl, rfl, by rw [size_set, size_set]; exact Nat.le_refl _, fun k _ hk => (blk_set_ne (fun e => hk (by rw [e]))).trans (blk_set_ne (fun e => hk (by rw [e])))⟩
    have hps := (hgs.block p (blk_lt (blk_ex hx0 hpw)) (fun e => hnp (by cases e; rfl))).trans (blk_ex hx0 hpw)
    have hgf := (hg.trans (grown_ex' (some gb) hx0)).trans hgs
    clear s1 hO0 y0 y1 z0 z1 x0 x1 hcu
    go_wp2
    go_roundw
    case rel =>
      refine ⟨i + 1, j + 1, L.set i (nth (0, 0) l j), by omega, by omega, by go_num, by go_num, hgf, hps, s2, ?_, fun k hk => ?_⟩
      · rw [take_nth (d := ((0, 0) : Int × Int)) (by rw [List.length_set]; omega), nth_set (by omega), if_pos rfl, hstep, ← hLt, List.take_set_of_le (Nat.le_refl _)]
      · rw [nth_set (by omega), if_neg (by omega)]
        exact hLk k (by omega)
    case measure => simp [intOf]; omega

end

/- What nodes.Kill gives. -/
section

open Go.Maps Go.RowKit Go.ChangeShapes Go.WideShapes Go.ChangeAt

set_option linter.unusedSimpArgs false

set_option linter.unusedVariables false

attribute [local go_sem] plus_size plus_drew dn_set dn_alloc dn_plus plus_dn cell_plus frozen_plus set_plus cell_alloc frozen_alloc set_alloc

def nk7S (i : Nat) : List Nat := match i with | 0 => [29] | 1 => [30] | 2 => [31] | 3 => [32] | 4 => [33, 32] | 5 => [9] | _ => []

def nk7Φ (T : World) (p : Nat) (xa : Option Addr) (ln xc : Nat) (ko : Option Addr) (kn kcap : Nat) (ks : List (List (Int × Int))) (i : Nat) (t : Nat → Value) (w' : World) : Prop := match i with
  | 0 => t 29 = .agg #[.slice xa ln xc]
  | 1 => t 30 = .pointer (some ⟨p, 1, none⟩)
  | 2 => t 31 = .slice ko kn kcap
  | 3 => ∃ a c hs, t 32 = .slice a kn c ∧ KOwn T w' a kn c hs ks
  | 4 => ∃ c, t 33 = .agg #[.slice xa ln xc, c] ∧ t 32 = c
  | 5 => ∃ g, t 9 = .pointer (some ⟨g, 0, none⟩) ∧ T.heap.size ≤ g ∧ w'.heap[g]? = some (.cells #[.slice none 0 0, .slice none 0 0] 27)
  | _ => True

theorem nk7Φ_mono (T : World) (p : Nat) (xa : Option Addr) (ln xc : Nat) (ko : Option Addr) (kn kcap : Nat) (ks : List (List (Int × Int))) : ∀ i t t' w' x, nk7Φ T p xa ln xc ko kn kcap ks i t w' → (∀ s ∈ nk7S i, t' s = t s) → nk7Φ T p xa ln xc ko kn kcap ks i t' (plus w' x) := by
  intro i t t' w' x h hs'
  match i with
  | 0 => exact (hs' 29 (by decide)).trans h
  | 1 => exact (hs' 30 (by decide)).trans h
  | 2 => exact (hs' 31 (by decide)).trans h
  | 3 => obtain ⟨a, c, q, e, o⟩ := h; exact ⟨a, c, q, (hs' 32 (by decide)).trans e, o.ex ⟨x, rfl⟩⟩
  | 4 => obtain ⟨c, e1, e2⟩ := h; exact ⟨c, (hs' 33 (by decide)).trans e1, (hs' 32 (by decide)).trans e2⟩
  | 5 => obtain ⟨g, e, hg, hb⟩ := h; exact ⟨g, (hs' 9 (by decide)).trans e, hg, blk_ex ⟨x, rfl⟩ hb⟩
  | i + 6 => trivial

def klS (i : Nat) : List Nat := match i with | 0 => [47] | 1 => [48] | 2 => [49] | 3 => [50] | 4 => [51] | 5 => [52] | 6 => [53] | _ => []

def klΦ (T : World) (gq : Option Nat) (pm kb kn kc ix : Nat) (ra : Option Addr) (rn rc ph : Nat) (h : Int × Int) (l : List (Int × Int)) (i : Nat) (t : Nat → Value) (D : Nat → Bool) (w' : World) : Prop := match i with
  | 0 => t 47 = .pointer (some ⟨pm, 1, none⟩)
  | 1 => t 48 = .slice (some ⟨kb, 0, none⟩) kn kc
  | 2 => t 49 = .int .i64 (ix : Int)
  | 3 => t 50 = .slice ra rn rc
  | 4 => t 51 = .func (.func 167) #[] #[.pointer (some ⟨ph, 0, none⟩)]
  | 5 => t 52 = .slice ra (without h l).length rc ∧ Own 32 2 f2 T w' ra (without h l).length rc (without h l) ∧ D 5 = true
  | 6 => t 53 = .pointer (some ⟨kb, ix, none⟩)
  | _ => True

theorem klΦ_mono (T : World) (gq : Option Nat) (pm kb kn kc ix : Nat) (ra : Option Addr) (rn rc ph : Nat) (h : Int × Int) (l : List (Int × Int)) : ∀ i t t' D w D' w', klΦ T gq pm kb kn kc ix ra rn rc ph h l i t D w → (∀ s ∈ klS i, t' s = t s) → Turn 5 gq D w D' w' → klΦ T gq pm kb kn kc ix ra rn rc ph h l i t' D' w' := by
  intro i t t' D w D' w' h_ hs' ht
  match i with
  | 0 => exact (hs' 47 (by decide)).trans h_
  | 1 => exact (hs' 48 (by decide)).trans h_
  | 2 => exact (hs' 49 (by decide)).trans h_
  | 3 => exact (hs' 50 (by decide)).trans h_
  | 4 => exact (hs' 51 (by decide)).trans h_
  | 5 => exact ⟨(hs' 52 (by decide)).trans h_.1, own_turn h_.2.1 ht h_.2.2, ht.mono h_.2.2⟩
  | 6 => exact (hs' 53 (by decide)).trans h_
  | i + 7 => trivial

theorem killRG_is {gr : Gr} {k : Nat} {g : Int} (he : askErr gr ((k : Int), g) ((k : Int), g) = 0) : killRG gr ((k : Int), g) = ⟨killList gr.sl k, (gr.ks.set k []).map (without ((k : Int), g))⟩ := by
  rw [killRG, he, if_pos rfl, killG]
  show Gr.mk (killList gr.sl k) ((gr.ks.map (without ((k : Int), g))).set ((k : Int)).toNat []) = _
  rw [Int.toNat_natCast, List.map_set]
  rfl

def KSAt (h : Int × Int) (ks0 ks' : List (List (Int × Int))) (i : Nat) : Prop := ∀ j, nth [] ks' j = if j < i then without h (nth [] ks0 j) else nth [] ks0 j

theorem own_grown_blk {α : Type} {f : α → List Value} {T w w' : World} {ao : Option Addr} {n cap c : Nat} {l : List α} {e e' : TypeId} {gb : Option Nat} (h : Own e c f T w ao n cap l) (hg : w.grownBy w' gb) (hty : ∀ q, gb = some q → ∃ cur, w.heap[q]? = some (.cells cur e')) (hne : e' ≠ e) : Own e c f T w' ao n cap l := by
  cases hq : gb with
  | none => exact own_grown h (hq ▸ hg) (fun a _ => by simp)
  | some q =>
    obtain ⟨cur, hb⟩ := hty q hq
    exact own_grown_ty h (hq ▸ hg) hb hne

theorem KOwn.upd {T w w' : World} {kb kn kcap : Nat} {hs : List RH} {ks : List (List (Int × Int))} {k : Nat} {gb : Option Nat} {r : RH} {l : List (Int × Int)} (h : KOwn T w (some ⟨kb, 0, none⟩) kn kcap hs ks) (hk : k < kn) (hg : w.grownBy w' gb) (hgb : ∀ q, gb = some q → (nth dRH hs k).ao = some ⟨q, 0, none⟩) (hr : r.ao = (nth dRH hs k).ao ∨ r.ao = none) (o : Own 32 2 f2 T w' r.ao r.n r.cap l) :
    KOwn T (w'.setCell ⟨kb, k, none⟩ (.slice r.ao r.n r.cap)) (some ⟨kb, 0, none⟩) kn kcap (hs.set k r) (ks.set k l) := by
  have hl := h.kh.1
  have hkl := h.kl
  have hty : ∀ q, gb = some q → ∃ cur, w.heap[q]? = some (.cells cur 32) := fun q hq => by
    have hr := h.row k (by omega)
    rw [hgb q hq] at hr
    obtain ⟨cur, hb, _⟩ := own_cur hr
    exact ⟨cur, hb⟩
  have kh' := own_grown_blk h.kh hg hty (by decide)
  obtain ⟨cur, hb, _⟩ := own_cur kh'
  have hs1 := kh'.set_self (u := .slice r.ao r.n r.cap) k 0 r dRH hk fR_c (by decide) rfl
  rw [Nat.mul_one, Nat.add_zero] at hs1
  refine ⟨hs1, by rw [List.length_set, List.length_set]; exact h.len, fun j hj => ?_, apart_set h.apart (by omega) fun j hj hjk a b ha hb => ?_⟩
  · rw [List.length_set] at hj
    rw [nth_set' (by omega), nth_set' (by omega)]
    by_cases e : j = k
    · rw [if_pos e, if_pos e]
      exact o.set_other hb (by decide)
    · rw [if_neg e, if_neg e]
      refine (own_grown (h.row j hj) hg fun a ha => ?_).set_other hb (by decide)
      intro e2
      cases hq : gb with
      | none => rw [hq] at e2; cases e2
      | some q =>
        rw [hq] at e2
        cases e2
        exact h.apart j k hj (by omega) e a _ ha (hgb _ hq) rfl
  · rcases hr with hr | hr
    · rw [hr] at hb
      exact h.apart j k hj (by omega) hjk a b ha hb
    · rw [hr] at hb
      cases hb

set_option maxRecDepth 100000 in
set_option maxHeartbeats 16000000 in
theorem nkill_calls (ao : Option Addr) (n cap : Nat) (ko : Option Addr) (kn kcap : Nat) (hs : List RH) (gr : Gr) (s g : Int) (w : World) (hG : GrAt w ao n ko kn hs gr) :
    Calls Tryz.prog 124 #[.agg #[.slice ao n cap, .slice ko kn kcap], .agg #[.int .i64 s, .int .i64 g]] w fun e w' => RetG w (killRG gr (s, g)) (askErr gr (s, g) (s, g)) e w' := by
  have hlen := hG.kl
  have hkh := hG.kh.len
  have hsl := hG.sl.len
  have m1 := hG.n1
  have m2 := hG.n2
  have hmf : ∀ (fn : Fn) (first cap : Array Value) (w : World), (Instr.makeFunc fn first cap).run Tryz.prog w = .ok (.func fn first cap) w := fun _ _ _ _ => rfl
  cases hO : grOk gr
  · have he : askErr gr (s, g) (s, g) = 8 := by rw [askErr, hO]; rfl
    have hC : grErr gr = 8 := by rw [grErr, hO]; rfl
    rw [he, show killRG gr (s, g) = zeroG by rw [killRG, he]; rfl]
    go_enter Tryz.func124, Tryz.ntmps124
    go_wp2_with (go_at_call 27; refine (plus_post (nref_is hC _ _ _ _ _ _ hs (hG.ex sk0))).mono ?_; rintro e w' ⟨rfl, nx, rfl⟩)
    exact bodyPost_ret (v := .tuple #[.agg #[.slice none 0 0, .slice none 0 0], .int .i64 8]) (by simp [results, Tryz.results124, go_sem, ↓IntWalk.iteOmega]) rfl ⟨none, 0, none, 0, [], rfl, sk0, own_zero⟩
  have hC : grErr gr = 0 := by rw [grErr, hO]; rfl
  obtain ⟨harOk, h2, h3, _⟩ := gr_parts hO
  cases hh : heldIn gr.sl s g
  · have he : askErr gr (s, g) (s, g) = 50 := by rw [askErr, hO, if_pos rfl, if_neg (by rw [hh]; simp)]
    have hkE : killErr gr.sl s g = 50 := by rw [killErr, if_pos harOk, hh]; rfl
    rw [he, show killRG gr (s, g) = zeroG by rw [killRG, he]; rfl]
    go_enter Tryz.func124, Tryz.ntmps124
    go_wp2_with (first | (go_at_call 27; refine (plus_post (nref_is hC _ _ _ _ _ _ hs (hG.ex sk0))).mono ?_; rintro e w' ⟨rfl, nx, rfl⟩) | (go_at_call 165; refine (lkill_calls _ _ _ gr.sl s g _ (hG.sl.ex sk0) (by omega)).mono ?_; rw [hkE]; rintro e wm ⟨xa, xc, rfl, ⟨ym, rfl⟩, om⟩))
    exact bodyPost_ret (v := .tuple #[.agg #[.slice none 0 0, .slice none 0 0], .int .i64 50]) (by simp [results, Tryz.results124, go_sem, ↓IntWalk.iteOmega]) rfl ⟨none, 0, none, 0, [], rfl, sk0, own_zero⟩
  have he : askErr gr (s, g) (s, g) = 0 := by rw [askErr, hO, if_pos rfl, if_pos ⟨hh, hh⟩]
  have hl := held_lt hh
  obtain ⟨k, rfl⟩ : ∃ k : Nat, s = (k : Int) := ⟨s.toNat, by omega⟩
  rw [Int.toNat_natCast] at hl
  have hkl : k < kn := by omega
  have ik : (k : Int) < (kn : Int) := by omega
  have hkE : killErr gr.sl k g = 0 := by rw [killErr, if_pos harOk, if_pos hh]
  have hkR : killRes gr.sl k g = killList gr.sl k := by rw [killRes, if_pos hkE]
  rw [he]
  go_enter Tryz.func124, Tryz.ntmps124
  go_upto_region 7 with (first | (go_at_call 27; refine (plus_post (nref_is hC _ _ _ _ _ _ hs (hG.ex sk0))).mono ?_; rintro e w' ⟨rfl, nx, rfl⟩) | (go_at_call 165; refine (lkill_calls _ _ _ gr.sl (k : Int) g _ (hG.sl.ex sk0) (by omega)).mono ?_; rw [hkE, hkR]; rintro e wm ⟨xa, xc, rfl, hwm, om⟩))
  have zm : w.heap.size + 1 + 1 + 1 ≤ wm.heap.size := by
    have := size_ex hwm
    simp [go_sem] at this
    omega
  have hTw : ∃ y, wm.alloc (.cells #[.slice xa (killList gr.sl k).length xc] 24) = plus w y := sn0
  have bA0 : (wm.alloc (.cells #[.slice xa (killList gr.sl k).length xc] 24)).heap[wm.heap.size]? = some (.cells #[.slice xa (killList gr.sl k).length xc] 24) := by rw [blk_alloc, if_pos rfl]
  have bG0 : (wm.alloc (.cells #[.slice xa (killList gr.sl k).length xc] 24)).heap[w.heap.size]? = some (.cells #[.slice ao n cap, .slice ko kn kcap] 27) := blk_ex (w := (w.alloc (.cells #[.slice ao n cap, .slice ko kn kcap] 27))) sn0 (by rw [blk_alloc, if_pos rfl])
  have bH0 : (wm.alloc (.cells #[.slice xa (killList gr.sl k).length xc] 24)).heap[w.heap.size + 1]? = some (.cells #[.int .i64 (k : Int), .int .i64 g] 32) := blk_ex (w := (w.alloc (.cells #[.slice ao n cap, .slice ko kn kcap] 27)).alloc (.cells #[.int .i64 (k : Int), .int .i64 g] 32)) sn0 (by rw [blk_alloc, if_pos (by simp)])
  have b10 : (wm.alloc (.cells #[.slice xa (killList gr.sl k).length xc] 24)).heap[w.heap.size + 1 + 1]? = some (.cells #[.slice none 0 0, .slice none 0 0] 27) := blk_ex (w := ((w.alloc (.cells #[.slice ao n cap, .slice ko kn kcap] 27)).alloc (.cells #[.int .i64 (k : Int), .int .i64 g] 32)).alloc (.cells #[.slice none 0 0, .slice none 0 0] 27)) sn0 (by rw [blk_alloc, if_pos (by simp)])
  have ox0 := (om.ex (ex_alloc (o := (.cells #[.slice xa (killList gr.sl k).length xc] 24)) (ex_refl wm))).base (T' := w) (by simp [go_sem]; omega)
  clear om
  generalize wm.alloc (.cells #[.slice xa (killList gr.sl k).length xc] 24) = Tw at *
  have l10 := blk_lt b10
  have a0 := cell_blk (i := 0) bA0 rfl
  have g1 := cell_blk (i := 1) bG0 rfl
  have la0 := blk_lt bA0
  have lg1 := blk_lt bG0
  refine region_rels 6 nk7S (nk7Φ Tw w.heap.size xa ((killList gr.sl k).length) xc ko kn kcap gr.ks) (by kernel_rfl) (by kernel_rfl) (by decide) (nk7Φ_mono Tw w.heap.size xa ((killList gr.sl k).length) xc ko kn kcap gr.ks) ?steps ?fin
  case steps =>
    refine ⟨?_, ?_, ?_, ?_, ?_, ?_, trivial⟩
    · intro a w' hg hfree hdeep
      obtain ⟨x, rfl⟩ := hg
      have f7_ := hfree 7 (by kernel_rfl)
      simp only [nk7Φ, got] at f7_
      simp [go_sem] at f7_
      unfold Oper.wp
      simp [go_sem, execOp, Act.eval, ↓IntWalk.iteOmega, f7_, a0]
      exact ⟨_, rfl, ex_refl _, by simp [nk7Φ, upd]⟩
    · intro a w' hg hfree hdeep
      obtain ⟨x, rfl⟩ := hg
      have f2_ := hfree 2 (by kernel_rfl)
      simp only [nk7Φ, got] at f2_
      simp [go_sem] at f2_
      unfold Oper.wp
      simp [go_sem, execOp, Act.eval, ↓IntWalk.iteOmega, f2_]
      exact ⟨_, rfl, ex_refl _, by simp [nk7Φ, upd]⟩
    · intro a w' hg hfree hdeep
      obtain ⟨x, rfl⟩ := hg
      have d1 := hdeep 1 (by kernel_rfl)
      simp only [nk7Φ, got] at d1
      unfold Oper.wp
      simp [go_sem, execOp, Act.eval, ↓IntWalk.iteOmega, d1, g1]
      exact ⟨_, rfl, ex_refl _, by simp [nk7Φ, upd]⟩
    · intro a w' hg hfree hdeep
      obtain ⟨x, rfl⟩ := hg
      have d2 := hdeep 2 (by kernel_rfl)
      simp only [nk7Φ, got] at d2
      unfold Oper.wp
      simp [go_sem, execOp, Act.eval, ↓IntWalk.iteOmega, d2]
      refine (twinK_calls ao n cap _ _ _ hs gr _ (hG.ex (ex_plus hTw))).mono ?_
      rintro e w1 ⟨k1, c1, hs1, rfl, hw1, o1⟩
      exact ⟨_, rfl, hw1, k1, c1, hs1, by simp [upd], o1.base (by rw [plus_size]; omega)⟩
    · intro a w' hg hfree hdeep
      obtain ⟨x, rfl⟩ := hg
      have d0 := hdeep 0 (by kernel_rfl)
      obtain ⟨a8, c8, _, e8, _⟩ : ∃ a_ c hs, got a 32 = .slice a_ kn c ∧ _ := hdeep 3 (by kernel_rfl)
      simp only [nk7Φ, got] at d0
      have g8 := e8
      simp only [got] at g8
      simp at g8
      simp at d0
      unfold Oper.wp
      simp [go_sem, execOp, Act.eval, ↓IntWalk.iteOmega, d0, g8]
      exact ⟨_, rfl, ex_refl _, .slice a8 kn c8, by simp [upd], by simp [upd]; exact e8⟩
    · intro a w' hg hfree hdeep
      obtain ⟨x, rfl⟩ := hg
      unfold Oper.wp
      simp [go_sem, execOp, Act.eval]
      exact ⟨_, rfl, ex_alloc (ex_refl _), _, by simp [upd]; rfl, by simp [go_sem], by rw [blk_alloc, if_pos (by simp [go_sem])]⟩
  case fin =>
    rintro t w2 hg2 hΦ
    have r0 := hΦ 0 (by decide)
    have r1 := hΦ 1 (by decide)
    have r2 := hΦ 2 (by decide)
    obtain ⟨ka, kc, hs1, r3, kO⟩ := hΦ 3 (by decide)
    obtain ⟨c9, r4, r4b⟩ := hΦ 4 (by decide)
    obtain ⟨pm, r5, hpm, hpb⟩ := hΦ 5 (by decide)
    rw [r3] at r4b
    cases r4b
    simp only [nk7Φ] at r0 r1 r2
    simp only [putAll, List.take_succ_cons, List.take_zero, List.drop_succ_cons, List.drop_zero, r0, r1, r2, r3, r4, r5]
    simp only [Act.put]
    simp only [List.setIfInBounds_toArray, List.set_cons_succ, List.set_cons_zero]
    clear hΦ r0 r1 r2 r3 r4 r5 a0 g1
    have pc0 := cell_blk (i := 0) hpb rfl
    have pc1 := cell_blk (i := 1) hpb rfl
    have pz0 := frozen_blk (i := 0) hpb
    have pz1 := frozen_blk (i := 1) hpb
    go_upto_region 8 with fail
    refine name_world (fun w' => w' = (w2.setCell ⟨pm, 0, none⟩ (.slice xa ((killList gr.sl k).length) xc)).setCell ⟨pm, 1, none⟩ (.slice ka kn kc)) rfl ?_
    rintro w3 e3
    have bv3 : w3.heap[pm]? = some (.cells #[.slice xa ((killList gr.sl k).length) xc, .slice ka kn kc] 27) := by rw [e3]; exact blk_set_eq (blk_set_eq hpb)
    have hx3 : ∃ y, w3 = plus Tw y := by rw [e3]; exact ex_set_new (ex_set_new hg2 hpm) hpm
    have ox3 : Own 86 2 fS w w3 xa ((killList gr.sl k).length) xc (killList gr.sl k) := by rw [e3]; exact ((ox0.ex hg2).set_other hpb (by decide)).set_other (blk_set_eq hpb) (by decide)
    have kO3 : KOwn Tw w3 ka kn kc hs1 gr.ks := by rw [e3]; exact (kO.set_other hpb (by decide) (by decide)).set_other (blk_set_eq hpb) (by decide) (by decide)
    have bH3 : w3.heap[w.heap.size + 1]? = some (.cells #[.int .i64 (k : Int), .int .i64 g] 32) := by rw [e3]; exact ((blk_set_ne (by have := blk_lt bH0; omega)).trans (blk_set_ne (by have := blk_lt bH0; omega))).trans (blk_ex hg2 bH0)
    have b13 : w3.heap[w.heap.size + 1 + 1]? = some (.cells #[.slice none 0 0, .slice none 0 0] 27) := by rw [e3]; exact ((blk_set_ne (by have := blk_lt b10; omega)).trans (blk_set_ne (by have := blk_lt b10; omega))).trans (blk_ex hg2 b10)
    clear e3 kO hpb pc0 pc1 pz0 pz1 ox0 hg2
    have lpm := blk_lt bv3
    clear bA0 bG0 bH0 b10
    obtain ⟨kb, cu, rfl, hkb, hkbb, _⟩ := kO3.kh.blk (by omega)
    have v1 := cell_blk (i := 1) bv3 rfl
    have h0 := cell_blk (i := 0) bH3 rfl
    have ck := lay_cell kO3.kh.lay hkl
    have zk := frozen_blk (i := k) hkbb
    have lkb := blk_lt hkbb
    have lh3 := blk_lt bH3
    have zTw := size_ex hTw
    have hI3 := kO3.upd (w' := w3) (gb := none) (r := dRH) (l := []) hkl (grown_refl w3 none) (fun q hq => by cases hq) (.inr rfl) own_nil
    have nKP : kb ≠ pm := fun e => by rw [← e, hkbb] at bv3; cases bv3
    have bv4 := (blk_set_ne (w := w3) (i := k) (u := .slice none 0 0) nKP).trans bv3
    have bh4 := (blk_set_ne (w := w3) (i := k) (u := .slice none 0 0) (show kb ≠ w.heap.size + 1 by omega)).trans bH3
    have br4 := (blk_set_ne (w := w3) (i := k) (u := .slice none 0 0) (show kb ≠ w.heap.size + 1 + 1 by omega)).trans b13
    have ox4 := ox3.set_other (i := k) (u := .slice none 0 0) hkbb (by decide)
    have hx4 : ∃ y, w3.setCell ⟨kb, k, none⟩ (.slice none 0 0) = plus w y := ex_set_new (ex_trans hTw hx3) (by omega)
    go_upto_region 9 with fail
    refine name_world (fun w' => KOwn Tw w' (some ⟨kb, 0, none⟩) kn kc (hs1.set k dRH) (gr.ks.set k []) ∧ Own 86 2 fS w w' xa (killList gr.sl k).length xc (killList gr.sl k) ∧ w'.heap[pm]? = some (.cells #[.slice xa (killList gr.sl k).length xc, .slice (some ⟨kb, 0, none⟩) kn kc] 27) ∧ w'.heap[w.heap.size + 1]? = some (.cells #[.int .i64 (k : Int), .int .i64 g] 32) ∧ w'.heap[w.heap.size + 1 + 1]? = some (.cells #[.slice none 0 0, .slice none 0 0] 27) ∧ ∃ y, w' = plus w y) ⟨hI3, ox4, bv4, bh4, br4, hx4⟩ ?_
    clear hI3 ox4 bv4 bh4 br4 hx4 v1 h0 ck zk kO3 ox3 bv3 bH3 b13 hx3 hkbb lpm lkb lh3
    rintro w4 ⟨hI4, ox4, bv4, bh4, br4, hx4⟩
    have v1 := cell_blk (i := 1) bv4 rfl
    have lp4 := blk_lt bv4
    go_wp2
    go_loopw [42] (fun i_ wr => ∃ (i : Nat) (hs' : List RH) (ks' : List (List (Int × Int))), i ≤ kn ∧ i_ = .int .i64 i ∧ KOwn Tw wr (some ⟨kb, 0, none⟩) kn kc hs' ks' ∧ Own 86 2 fS w wr xa (killList gr.sl k).length xc (killList gr.sl k) ∧ wr.heap[pm]? = some (.cells #[.slice xa (killList gr.sl k).length xc, .slice (some ⟨kb, 0, none⟩) kn kc] 27) ∧ wr.heap[w.heap.size + 1]? = some (.cells #[.int .i64 (k : Int), .int .i64 g] 32) ∧ wr.heap[w.heap.size + 1 + 1]? = some (.cells #[.slice none 0 0, .slice none 0 0] 27) ∧ (∃ y, wr = plus w y) ∧ KSAt ((k : Int), g) (gr.ks.set k []) ks' i) (fun i_ _ => kn - (intOf i_).toNat)
    case atStart => exact ⟨0, _, _, Nat.zero_le _, rfl, hI4, ox4, bv4, bh4, br4, hx4, fun j => by rw [if_neg (by omega)]⟩
    case round =>
      clear hI4 ox4 bv4 bh4 br4 hx4 v1 lp4
      obtain ⟨i, hs', ks', hi, rfl, hI, ox, bv, bh, br, hx, hks⟩ := hrel
      have hkl' := hI.kl
      have hhl' := hI.kh.1
      by_cases hil : i < kn
      rotate_left
      · have ii : ¬ (i : Int) < (kn : Int) := by omega
        obtain rfl : i = kn := by omega
        have q0 := cell_blk (i := 0) bv rfl
        have q1 := cell_blk (i := 1) bv rfl
        have s0 := cell_blk (i := 0) br rfl
        have s1 := cell_blk (i := 1) br rfl
        have y0 := frozen_blk (i := 0) br
        have y1 := frozen_blk (i := 1) br
        have lb := blk_lt bv
        have lr := blk_lt br
        have og4 : GrOwn w wr xa (killList gr.sl k).length xc (some ⟨kb, 0, none⟩) i kc hs' ⟨killList gr.sl k, ks'⟩ := GrOwn.mk2 (hI.base (size_ex hTw)) ox
        have og5 := (og4.set_other (i := 0) (u := .slice xa (killList gr.sl k).length xc) br (by decide) (by decide) (by decide)).set_other (i := 1) (u := .slice (some ⟨kb, 0, none⟩) i kc) (blk_set_eq br) (by decide) (by decide) (by decide)
        have bR5 := blk_set_eq (i := 1) (u := .slice (some ⟨kb, 0, none⟩) i kc) (blk_set_eq (i := 0) (u := .slice xa (killList gr.sl k).length xc) br)
        have hx5 := ex_set_new (i := 1) (u := .slice (some ⟨kb, 0, none⟩) i kc) (g := w.heap.size + 1 + 1) (ex_set_new (i := 0) (u := .slice xa (killList gr.sl k).length xc) (g := w.heap.size + 1 + 1) hx (by omega)) (by omega)
        clear og4
        go_wp2
        generalize (wr.setCell ⟨w.heap.size + 1 + 1, 0, none⟩ (.slice xa (killList gr.sl k).length xc)).setCell ⟨w.heap.size + 1 + 1, 1, none⟩ (.slice (some ⟨kb, 0, none⟩) i kc) = w5 at *
        have t0 := cell_blk (i := 0) bR5 rfl
        have t1 := cell_blk (i := 1) bR5 rfl
        have hpost : RetG w (killRG gr ((k : Int), g)) 0 (.returned (.tuple #[.agg #[.slice xa (killList gr.sl k).length xc, .slice (some ⟨kb, 0, none⟩) i kc], .int .i64 0])) w5 := by
          have hke : ks' = (gr.ks.set k []).map (without ((k : Int), g)) := by
            refine ext_nth (d := []) (by rw [hkl', List.length_map, List.length_set, hlen]) fun j hj => ?_
            rw [hks j, if_pos (by omega), nth_map (d := []) (e := []) rfl]
          rw [killRG_is he, ← hke]
          refine ⟨xa, xc, some ⟨kb, 0, none⟩, kc, hs', ?_, hx5, ?_⟩
          · show Ending.returned (.tuple #[.agg #[.slice xa (killList gr.sl k).length xc, .slice (some ⟨kb, 0, none⟩) i kc], .int .i64 0]) = .returned (.tuple #[.agg #[.slice xa (killList gr.sl k).length xc, .slice (some ⟨kb, 0, none⟩) ks'.length kc], .int .i64 0])
            rw [hkl']
          · show GrOwn w w5 xa (killList gr.sl k).length xc (some ⟨kb, 0, none⟩) ks'.length kc _ _
            rw [hkl']
            exact og5
        exact bodyPost_ret (v := .tuple #[.agg #[.slice xa (killList gr.sl k).length xc, .slice (some ⟨kb, 0, none⟩) i kc], .int .i64 0]) (by simp [results, Tryz.results124, go_sem, t0, t1]) rfl hpost
      have ii : (i : Int) < (kn : Int) := by omega
      have hci := lay_cell hI.kh.lay hil
      have orow := hI.row i (by omega)
      have hrn3 : (nth [] ks' i).length ≤ 1000 := by
        rw [hks i, if_neg (by omega), nth_set' (by omega)]
        by_cases e : i = k
        · rw [if_pos e]; decide
        · rw [if_neg e]
          have := (rows_at h3 (i := i) (by omega)).1
          omega
      obtain ⟨kb', cu', ekb, hkb', hkbb, _⟩ := hI.kh.blk (by omega)
      cases ekb
      generalize hre : nth dRH hs' i = r at *
      obtain ⟨ra, rn, rc⟩ := r
      simp only at hci orow
      have hrnl := orow.1
      have hgq := own_block orow
      have nP : some pm ≠ Value.ownBlock (.slice ra rn rc) := fun e => by obtain ⟨_, _, _, cur, hb⟩ := hgq _ e.symm; rw [hb] at bv; cases bv
      have nH : some (w.heap.size + 1) ≠ Value.ownBlock (.slice ra rn rc) := fun e => by have := hgq _ e.symm; omega
      have nR : some (w.heap.size + 1 + 1) ≠ Value.ownBlock (.slice ra rn rc) := fun e => by have := hgq _ e.symm; omega
      have nK : some kb ≠ Value.ownBlock (.slice ra rn rc) := fun e => by obtain ⟨_, _, _, cur, hb⟩ := hgq _ e.symm; rw [hb] at hkbb; cases hkbb
      have lkb := blk_lt hkbb
      go_wp2
      refine region_relD 7 klS (klΦ Tw (Value.ownBlock (.slice ra rn rc)) pm kb kn kc i ra rn rc (w.heap.size + 1) ((k : Int), g) (nth [] ks' i)) (Turn 5 (Value.ownBlock (.slice ra rn rc))) turn_trans (turn_draw _) (by kernel_rfl) (by kernel_rfl) (by decide) (klΦ_mono Tw (Value.ownBlock (.slice ra rn rc)) pm kb kn kc i ra rn rc (w.heap.size + 1) ((k : Int), g) (nth [] ks' i) ) ?steps ?fin
      case steps =>
        refine ⟨?_, ?_, ?_, ?_, ?_, ?_, ?_, trivial⟩
        · intro a D w' hg hfree hdeep hD
          have f9_ := hfree 9 (by kernel_rfl)
          simp only [klΦ, got] at f9_
          simp [go_sem] at f9_
          unfold Oper.wp
          simp [go_sem, execOp, Act.eval, ↓IntWalk.iteOmega, f9_]
          exact ⟨_, rfl, turn_grow (ex_refl _), by simp [klΦ, upd]⟩
        · intro a D w' hg hfree hdeep hD
          have d0 := hdeep 0 (by kernel_rfl)
          simp only [klΦ, got] at d0
          simp [go_sem] at d0
          have c1_ := cell_blk (i := 1) (turn_blk hg (nP) bv) rfl
          unfold Oper.wp
          simp [go_sem, execOp, Act.eval, ↓IntWalk.iteOmega, d0, c1_]
          exact ⟨_, rfl, turn_grow (ex_refl _), by simp [klΦ, upd]⟩
        · intro a D w' hg hfree hdeep hD
          have f10_ := hfree 10 (by kernel_rfl)
          simp only [klΦ, got] at f10_
          simp [go_sem] at f10_
          unfold Oper.wp
          simp [go_sem, execOp, Act.eval, ↓IntWalk.iteOmega, f10_]
          exact ⟨_, rfl, turn_grow (ex_refl _), by simp [klΦ, upd]⟩
        · intro a D w' hg hfree hdeep hD
          have f11_ := hfree 11 (by kernel_rfl)
          simp only [klΦ, got] at f11_
          simp [go_sem] at f11_
          unfold Oper.wp
          simp [go_sem, execOp, Act.eval, ↓IntWalk.iteOmega, f11_]
          exact ⟨_, rfl, turn_grow (ex_refl _), by simp [klΦ, upd]⟩
        · intro a D w' hg hfree hdeep hD
          have f3_ := hfree 3 (by kernel_rfl)
          simp only [klΦ, got] at f3_
          simp [go_sem] at f3_
          unfold Oper.wp
          simp [go_sem, execOp, Act.eval, ↓IntWalk.iteOmega, f3_, hmf]
          exact ⟨_, rfl, turn_grow (ex_refl _), by simp [klΦ, upd]⟩
        · intro a D w' hg hfree hdeep hD
          have d3 := hdeep 3 (by kernel_rfl)
          have d4 := hdeep 4 (by kernel_rfl)
          simp only [klΦ, got] at d3 d4
          simp [go_sem] at d3 d4
          obtain ⟨x, rfl⟩ := turn_ahead hg hD
          unfold Oper.wp
          simp [go_sem, execOp, Act.eval, ↓IntWalk.iteOmega, d3, d4]
          refine (delF Tw _ ra _ rc (nth [] ks' i) (w.heap.size + 1) (k : Int) g (orow.ex ⟨x, rfl⟩) (by omega) (blk_ex ⟨x, rfl⟩ bh) (by omega)).mono ?_
          rintro e w1' ⟨rfl, hg1, o1⟩
          exact ⟨_, rfl, turn_do hg1 hD, by simp [upd], o1, also_self' 5⟩
        · intro a D w' hg hfree hdeep hD
          have d1 := hdeep 1 (by kernel_rfl)
          have d2 := hdeep 2 (by kernel_rfl)
          simp only [klΦ, got] at d1 d2
          simp [go_sem] at d1 d2
          unfold Oper.wp
          simp [go_sem, execOp, Act.eval, ↓IntWalk.iteOmega, d1, d2, ii]
          exact ⟨_, rfl, turn_grow (ex_refl _), by simp [klΦ, upd]⟩
      case fin =>
        rintro t D w9 hDa hg hΦ
        have r0 := hΦ 0 (by decide)
        have r1 := hΦ 1 (by decide)
        have r2 := hΦ 2 (by decide)
        have r3 := hΦ 3 (by decide)
        have r4 := hΦ 4 (by decide)
        have r6 := hΦ 6 (by decide)
        simp only [klΦ] at r0 r1 r2 r3 r4 r6
        obtain ⟨r5, o9, hD9⟩ := hΦ 5 (by decide)
        simp only [putAll, List.take_succ_cons, List.take_zero, List.drop_succ_cons, List.drop_zero, r0, r1, r2, r3, r4, r5, r6]
        simp only [Act.put]
        simp only [List.setIfInBounds_toArray, List.set_cons_succ, List.set_cons_zero]
        clear hΦ r0 r1 r2 r3 r4 r5 r6
        have bK9 := turn_blk hg nK hkbb
        have ck9 := lay_cell (own_turn' hI.kh hg nK).lay hil
        have zk9 := frozen_blk (i := i) bK9
        have lk9 := blk_lt bK9
        have hI9 := hI.upd (r := ⟨ra, (without ((k : Int), g) (nth [] ks' i)).length, rc⟩) (l := without ((k : Int), g) (nth [] ks' i)) hil hg.grow (fun q hq => by rw [hre]; exact (hgq q hq).2.2.1) (.inl (by rw [hre])) o9
        have ox9 := (own_grown_blk ox hg.grow (fun q hq => (hgq q hq).2.2.2) (by decide)).set_other (i := i) (u := .slice ra (without ((k : Int), g) (nth [] ks' i)).length rc) bK9 (by decide)
        have nKP : kb ≠ pm := fun e => by rw [← e, hkbb] at bv; cases bv
        have nKH : kb ≠ w.heap.size + 1 := by omega
        have nKR : kb ≠ w.heap.size + 1 + 1 := by omega
        have bv9 := (blk_set_ne (w := w9) (i := i) (u := .slice ra (without ((k : Int), g) (nth [] ks' i)).length rc) nKP).trans (turn_blk hg nP bv)
        have bh9 := (blk_set_ne (w := w9) (i := i) (u := .slice ra (without ((k : Int), g) (nth [] ks' i)).length rc) nKH).trans (turn_blk hg nH bh)
        have br9 := (blk_set_ne (w := w9) (i := i) (u := .slice ra (without ((k : Int), g) (nth [] ks' i)).length rc) nKR).trans (turn_blk hg nR br)
        have hx9 : ∃ y, w9.setCell ⟨kb, i, none⟩ (.slice ra (without ((k : Int), g) (nth [] ks' i)).length rc) = plus w y := ex_set_new (turn_ex hg hx (fun q hq => by have := hgq q hq; omega)) (by omega)
        go_wp2
        go_roundw
        case rel =>
          refine ⟨i + 1, hs'.set i ⟨ra, (without ((k : Int), g) (nth [] ks' i)).length, rc⟩, ks'.set i (without ((k : Int), g) (nth [] ks' i)), by omega, by go_num, hI9, ox9, bv9, bh9, br9, hx9, fun j => ?_⟩
          rw [nth_set' (by rw [hI.kl]; exact hil)]
          by_cases ej : j = i
          · subst ej
            rw [if_pos rfl, if_pos (by omega), hks j, if_neg (by omega)]
          · rw [if_neg ej, hks j]
            by_cases hj : j < i
            · rw [if_pos hj, if_pos (by omega)]
            · rw [if_neg hj, if_neg (by omega)]
        case measure => simp [intOf]; omega

end

end Go.Proofs.YtcekcihijdipoaaGreat
