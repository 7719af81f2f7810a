/- A pack of texts: EdCk1, Nodes6, Nodes7, NodesS, Nodes8, Nodes9, Arena9, Rel5, NdP2, EdCk2, EdCk3. -/
import Derived.Deep.DeepCutAuto
import Derived.Test.YtcekcihijdipoaaGreatPM19
import Derived.Test.YtcekcihijdipoaaGreatPM15
import Derived.Test.YtcekcihijdipoaaGreatPM14
import Derived.Test.YtcekcihijdipoaaGreatPM4
import Derived.Test.YtcekcihijdipoaaGreatPM3
import Derived.Test.YtcekcihijdipoaaGreatPM16
namespace Go.Proofs.YtcekcihijdipoaaGreat

section


open Go.RowKit Go.ChangeShapes Go.WideShapes Go.ChangeAt

set_option linter.unusedSimpArgs false

set_option linter.unusedVariables false

attribute [local go_sem] plus_size plus_drew dn_set dn_alloc dn_plus plus_dn cell_plus frozen_plus set_plus cell_alloc frozen_alloc set_alloc

set_option maxRecDepth 100000 in
theorem kidsFit_calls (h : NH) (ao : Option Addr) (n cap : Nat) {b : Bool} (hb : (!decide (h.f.kind = 5) || decide (n = 0)) = b) (w : World) : Calls Tryz.prog 120 #[vN h, .slice ao n cap] w fun e w' => e = .returned (.bool b) ∧ ∃ y, w' = plus w y := by
  subst hb
  show Calls Tryz.prog 120 #[.agg (fN h).toArray, .slice ao n cap] w fun e w' => e = .returned (.bool (!decide (h.f.kind = 5) || decide (n = 0))) ∧ ∃ y, w' = plus w y
  have hkind := kind_at h
  obtain ⟨kd, hk⟩ : ∃ k, h.f.kind = k := ⟨_, rfl⟩
  rw [hk] at hkind ⊢
  obtain ⟨cs, hcs⟩ : ∃ cs, fN h = cs := ⟨_, rfl⟩
  rw [hcs] at hkind ⊢
  clear hcs hk
  by_cases h5 : kd = 5
  · subst h5
    by_cases h0 : n = 0
    · subst h0
      go_enter Tryz.func120, Tryz.ntmps120
      go_upto_region 1 with fail
      refine name_w (fun w' => (∃ y, w' = plus w y) ∧ w'.heap[w.heap.size]? = some (.cells cs.toArray 56)) ⟨(by with_reducible repeat (first | exact ex_refl _ | exact ex_more9 | apply ex_alloc | apply ex_plus | apply ex_drew | apply ex_drewN)), blk_new2 _ _⟩ ?_
      rintro w1 ⟨x1, k1⟩
      have p0 := cell_of k1 hkind
      go_wp2
      go_ret
      exact ⟨rfl, ex_trans x1 (by with_reducible repeat (first | exact ex_refl _ | exact ex_more9 | apply ex_alloc | apply ex_plus | apply ex_drew | apply ex_drewN))⟩
    · have d0 : ((n : Int) == 0) = false := by rw [beq_eq_false_iff_ne]; omega
      go_enter Tryz.func120, Tryz.ntmps120
      go_upto_region 1 with fail
      refine name_w (fun w' => (∃ y, w' = plus w y) ∧ w'.heap[w.heap.size]? = some (.cells cs.toArray 56)) ⟨(by with_reducible repeat (first | exact ex_refl _ | exact ex_more9 | apply ex_alloc | apply ex_plus | apply ex_drew | apply ex_drewN)), blk_new2 _ _⟩ ?_
      rintro w1 ⟨x1, k1⟩
      have p0 := cell_of k1 hkind
      go_wp2
      go_ret
      exact ⟨by simp [h0], ex_trans x1 (by with_reducible repeat (first | exact ex_refl _ | exact ex_more9 | apply ex_alloc | apply ex_plus | apply ex_drew | apply ex_drewN))⟩
  · have d5 : (kd == 5) = false := by rw [beq_eq_false_iff_ne]; exact h5
    go_enter Tryz.func120, Tryz.ntmps120
    go_upto_region 1 with fail
    refine name_w (fun w' => (∃ y, w' = plus w y) ∧ w'.heap[w.heap.size]? = some (.cells cs.toArray 56)) ⟨(by with_reducible repeat (first | exact ex_refl _ | exact ex_more9 | apply ex_alloc | apply ex_plus | apply ex_drew | apply ex_drewN)), blk_new2 _ _⟩ ?_
    rintro w1 ⟨x1, k1⟩
    have p0 := cell_of k1 hkind
    go_wp2
    go_ret
    exact ⟨by simp [h5], ex_trans x1 (by with_reducible repeat (first | exact ex_refl _ | exact ex_more9 | apply ex_alloc | apply ex_plus | apply ex_drew | apply ex_drewN))⟩

/-- may a node stand at a slot? -/
def fits (s : Sc) (k : Nat) (n : Nd) : Bool := if (nth dSl s.g.sl k).live then mayNd s.ms.length s.ts.length n && (!decide (n.f.kind = 5) || decide ((nth [] s.g.ks k).length = 0)) else sameNd n nd0

theorem fits_node {s : Sc} {k : Nat} : nodeOk s k = fits s k (nth nd0 s.ns k) := by
  unfold fits nodeOk leafKids
  cases hv : (nth dSl s.g.sl k).live
  · cases hs : sameNd (nth nd0 s.ns k) nd0
    · rfl
    · rw [sameNd_eq hs]
      rfl
  · cases mayNd s.ms.length s.ts.length (nth nd0 s.ns k)
    · rfl
    · by_cases h5 : (nth nd0 s.ns k).f.kind = 5 <;> by_cases h0 : (nth [] s.g.ks k).length = 0 <;> simp [h5, h0] <;> omega

set_option maxRecDepth 100000 in
set_option maxHeartbeats 4000000 in
theorem fits_calls (gs go ks ko : Nat) (na ma ta : Option Addr) (gn gc kn kc nn nc mn mc tn tc : Nat) (r0 r1 : Int) (k : Nat) (h : NH) (n : Nd) (lv : Bool) (ra : Option Addr) (rn rc : Nat) {v : Bool} (w : World) (hN : NodeAt w h n) (s1 : h.n ≤ 10000)
    (kv : w.cell? ⟨gs, go + k * 2 + 1, none⟩ = some (.bool lv)) (kr : w.cell? ⟨ks, ko + k, none⟩ = some (.slice ra rn rc)) (hk : k < gn) (hk2 : k < kn) (hv : (if lv then mayNd mn tn n && (!decide (n.f.kind = 5) || decide (rn = 0)) else sameNd n nd0) = v) :
    Calls Tryz.prog 74 #[.agg #[.slice (some ⟨gs, go, none⟩) gn gc, .slice (some ⟨ks, ko, none⟩) kn kc, .slice na nn nc, .slice ma mn mc, .slice ta tn tc, .int .i64 r0, .int .i64 r1], .int .i64 k, vN h] w fun e w' => e = .returned (.bool v) ∧ ∃ y, w' = plus w y := by
  show Calls Tryz.prog 74 #[.agg #[.slice (some ⟨gs, go, none⟩) gn gc, .slice (some ⟨ks, ko, none⟩) kn kc, .slice na nn nc, .slice ma mn mc, .slice ta tn tc, .int .i64 r0, .int .i64 r1], .int .i64 k, .agg (fN h).toArray] w fun e w' => e = .returned (.bool v) ∧ ∃ y, w' = plus w y
  have ik : (k : Int) < (gn : Int) := by omega
  have ik2 : (k : Int) < (kn : Int) := by omega
  have hkd : n.f.kind = h.f.kind := by rw [hN.f]
  rw [hkd] at hv
  obtain ⟨bm, hbm⟩ : ∃ b, mayNd mn tn n = b := ⟨_, rfl⟩
  obtain ⟨bf, hbf⟩ : ∃ b, (!decide (h.f.kind = 5) || decide (rn = 0)) = b := ⟨_, rfl⟩
  rw [hbm, hbf] at hv
  replace hv := Hush9.mk hv
  have kB := build_node
  obtain ⟨b, hb⟩ : ∃ b, w.heap.size = b := ⟨_, rfl⟩
  go_enter Tryz.func74, Tryz.ntmps74
  go_upto_region 1 with fail
  refine name_w (fun w' => (∃ y, w' = plus w y) ∧ w'.heap[b]? = some (.cells #[.slice (some ⟨gs, go, none⟩) gn gc, .slice (some ⟨ks, ko, none⟩) kn kc, .slice na nn nc, .slice ma mn mc, .slice ta tn tc, .int .i64 r0, .int .i64 r1] 34) ∧ w'.heap[b + 1]? = some (.cells (fN h).toArray 56)) ⟨(by with_reducible repeat (first | exact ex_refl _ | exact ex_more9 | apply ex_alloc | apply ex_plus | apply ex_drew | apply ex_drewN)), hb ▸ blk_old (blk_new2 _ _), by rw [← hb, ← size_alloc w]; exact blk_new2 _ _⟩ ?_
  try simp only [hb]
  rintro w1 ⟨x1, k0, k1⟩
  have c0 := cell_blk (i := 0) k0 rfl
  have c1 := cell_blk (i := 1) k0 rfl
  have c2 := cell_blk (i := 2) k0 rfl
  have c3 := cell_blk (i := 3) k0 rfl
  have c4 := cell_blk (i := 4) k0 rfl
  have c5 := cell_blk (i := 5) k0 rfl
  have c6 := cell_blk (i := 6) k0 rfl
  have qv := cell_ex x1 kv
  have qr := cell_ex x1 kr
  have hNa := hN.ex x1
  have l1 := blk_lt k1
  have l2 := cell_lt qv
  have l3 := cell_lt qr
  cases lv
  · go_wp2_with (first | (refine wpList_load_row rfl 56 _ rfl (b + 1) rfl _ _ _ _ k1 Tryz.underlying56 rfl (by kernel_rfl) ?_) | (refine wpList_build_is rfl 56 _ rfl (fN nh0) ?hf ?_; case hf => (simp only [List.map_toArray, List.map_cons, List.map_nil]; kernel_rfl)) | (go_at_call 48; refine (lsameNd_at (h2 := nh0) (hNa.ex (by with_reducible repeat (first | exact ex_refl _ | exact ex_more9 | apply ex_alloc | apply ex_plus | apply ex_drew | apply ex_drewN))) (nd0_at _) s1 (by decide) hv.it).mono ?_; rintro e w' ⟨rfl, nx, rfl⟩))
    go_ret
    exact ⟨rfl, ex_trans x1 (by with_reducible repeat (first | exact ex_refl _ | exact ex_more9 | apply ex_alloc | apply ex_plus | apply ex_drew | apply ex_drewN))⟩
  cases bm
  · obtain rfl : false = v := hv.it
    go_upto_region 3 with fail
    refine region_plus (by kernel_rfl) (by kernel_rfl) ?_
    (repeat (first | go_big_quiet_skip | (refine wpQuiet_load_guarded 56 _ rfl (b + 1) 0 rfl (fN h) _ (fun w' hw j v hj => cell_ex (by first | exact hw | exact ex_trans (by with_reducible repeat (first | exact ex_refl _ | exact ex_more9 | apply ex_alloc | apply ex_plus | apply ex_drew | apply ex_drewN)) hw) (by rw [Nat.zero_add]; exact cell_of k1 hj)) Tryz.underlying56 rfl (by kernel_rfl) (by kernel_rfl) ?_; simp only [Act.put, List.setIfInBounds_toArray, List.set_cons_succ, List.set_cons_zero]) | go_big_quiet_step (first | (go_at_call 17; exact q9_of (lcheckNd_is (hNa.ex (by with_reducible repeat (first | exact ex_refl _ | exact ex_more9 | apply ex_alloc | apply ex_plus | apply ex_drew | apply ex_drewN))) s1 hbm)) | (go_at_call 120; exact q9_of (kidsFit_calls h _ _ _ hbf _)))))
    refine wpQuiet_nil ?_
    rintro _ ⟨x2, rfl⟩
    go_wp2
    go_ret
    exact ⟨rfl, ex_trans x1 (by with_reducible repeat (first | exact ex_refl _ | exact ex_more9 | apply ex_alloc | apply ex_plus | apply ex_drew | apply ex_drewN))⟩
  · obtain rfl : bf = v := hv.it
    go_upto_region 3 with fail
    refine region_plus (by kernel_rfl) (by kernel_rfl) ?_
    (repeat (first | go_big_quiet_skip | (refine wpQuiet_load_guarded 56 _ rfl (b + 1) 0 rfl (fN h) _ (fun w' hw j v hj => cell_ex (by first | exact hw | exact ex_trans (by with_reducible repeat (first | exact ex_refl _ | exact ex_more9 | apply ex_alloc | apply ex_plus | apply ex_drew | apply ex_drewN)) hw) (by rw [Nat.zero_add]; exact cell_of k1 hj)) Tryz.underlying56 rfl (by kernel_rfl) (by kernel_rfl) ?_; simp only [Act.put, List.setIfInBounds_toArray, List.set_cons_succ, List.set_cons_zero]) | go_big_quiet_step (first | (go_at_call 17; exact q9_of (lcheckNd_is (hNa.ex (by with_reducible repeat (first | exact ex_refl _ | exact ex_more9 | apply ex_alloc | apply ex_plus | apply ex_drew | apply ex_drewN))) s1 hbm)) | (go_at_call 120; exact q9_of (kidsFit_calls h _ _ _ hbf _)))))
    refine wpQuiet_nil ?_
    rintro _ ⟨x2, rfl⟩
    go_wp2
    go_ret
    exact ⟨rfl, ex_trans x1 (by with_reducible repeat (first | exact ex_refl _ | exact ex_more9 | apply ex_alloc | apply ex_plus | apply ex_drew | apply ex_drewN))⟩

set_option maxHeartbeats 2000000 in
theorem lroot_calls (ga ka na ma ta : Option Addr) (gn gc kn kc nn nc mn mc tn tc : Nat) (r0 r1 : Int) (a0 a1 : Int) (l : List Sl) (w : World) (hl : Lay fS w ga gn l) (hn : gn ≤ 1000) (hok : arOk l = true) {v : Bool} (hv : (decide ((a0, a1) = ((0, 0) : Int × Int)) || heldIn l a0 a1) = v) :
    Calls Tryz.prog 31 #[.agg #[.slice ga gn gc, .slice ka kn kc, .slice na nn nc, .slice ma mn mc, .slice ta tn tc, .int .i64 r0, .int .i64 r1], .agg #[.int .i64 a0, .int .i64 a1]] w fun e w' => e = .returned (.bool v) ∧ ∃ y, w' = plus w y := by
  obtain ⟨br, hbr⟩ : ∃ b, eqh a0 a1 0 0 = b := ⟨_, rfl⟩
  have qH := eqH_is hbr
  have hroot : decide ((a0, a1) = ((0, 0) : Int × Int)) = br := by
    rw [← hbr]
    by_cases e0 : a0 = 0 <;> by_cases e1 : a1 = 0 <;> simp [eqh, e0, e1]
  rw [hroot] at hv
  clear hroot hbr
  obtain ⟨bh, hbh⟩ : ∃ b, heldIn l a0 a1 = b := ⟨_, rfl⟩
  have hho : holds l a0 a1 = bh := by rw [holds, hok, hbh]; rfl
  rw [hbh] at hv
  replace hv := Hush9.mk hv
  replace hho := Hush9.mk hho
  cases br
  · obtain rfl : bh = v := hv.it
    go_enter Tryz.func31, Tryz.ntmps31
    go_wp2_with (go_at_call 79; refine (plus_post (hho.it ▸ lholds_calls _ _ _ l _ _ _ (hl.ex (by with_reducible repeat (first | exact ex_refl _ | exact ex_more9 | apply ex_alloc | apply ex_plus | apply ex_drew | apply ex_drewN))) (by omega))).mono ?_; rintro e w' ⟨rfl, nx, rfl⟩)
    go_ret
    exact ⟨rfl, (by with_reducible repeat (first | exact ex_refl _ | exact ex_more9 | apply ex_alloc | apply ex_plus | apply ex_drew | apply ex_drewN))⟩
  · obtain rfl : true = v := hv.it
    go_enter Tryz.func31, Tryz.ntmps31
    go_wp2_with fail
    go_ret
    exact ⟨rfl, (by with_reducible repeat (first | exact ex_refl _ | exact ex_more9 | apply ex_alloc | apply ex_plus | apply ex_drew | apply ex_drewN))⟩

end

section


open Go.RowKit Go.ChangeShapes Go.WideShapes Go.ChangeAt

set_option linter.unusedSimpArgs false

set_option linter.unusedVariables false

attribute [local go_sem] plus_size plus_drew dn_set dn_alloc dn_plus plus_dn cell_plus frozen_plus set_plus cell_alloc frozen_alloc set_alloc

def kidsL (g : Gr) (h : Int × Int) : List (Int × Int) := if askErr g h h = 0 then rowAt g h else []

def parentsL (g : Gr) (h : Int × Int) : List (Int × Int) := if askErr g h h = 0 then parentsTo g h g.ks.length else []

def reachR (g : Gr) (a b : Int × Int) : Bool := if askErr g a b = 0 then reachB g a b else false

end

section


open Go.RowKit Go.ChangeShapes Go.WideShapes Go.ChangeAt

set_option linter.unusedSimpArgs false

set_option linter.unusedVariables false

attribute [local go_sem] plus_size plus_drew dn_set dn_alloc dn_plus plus_dn cell_plus frozen_plus set_plus cell_alloc frozen_alloc set_alloc

def parentsIn (gr : Gr) (h : Int × Int) (i k : Nat) : List (Int × Int) := parentsTo gr h i ++ (((nth [] gr.ks i).take k).filter fun x => decide (x = h)).map fun _ => ((i : Int), (nth dSl gr.sl i).gen)

end

section


open Go.RowKit Go.ChangeShapes Go.WideShapes Go.ChangeAt

set_option linter.unusedSimpArgs false

set_option linter.unusedVariables false

attribute [local go_sem] plus_size plus_drew dn_set dn_alloc dn_plus plus_dn cell_plus frozen_plus set_plus cell_alloc frozen_alloc set_alloc

/-- a list's block, whatever it holds -/
def Sh (T : World) (e : TypeId) (c : Nat) (w : World) (ao : Option Addr) (n : Nat) : Prop := n = 0 ∨ ∃ g cur, ao = some ⟨g, 0, none⟩ ∧ T.heap.size ≤ g ∧ w.heap[g]? = some (.cells cur e) ∧ n * c ≤ cur.size

/-- slots and handles in memory newer than T are written over; all else stays -/
structure Sp (T w w' : World) : Prop where
  os : w'.os = w.os
  tape : w'.tape = w.tape
  output : w'.output = w.output
  size : w.heap.size ≤ w'.heap.size
  blk : ∀ k, k < w.heap.size → w'.heap[k]? = w.heap[k]? ∨ (T.heap.size ≤ k ∧ ∃ c c' e, w.heap[k]? = some (.cells c e) ∧ w'.heap[k]? = some (.cells c' e) ∧ c'.size = c.size ∧ (e = 86 ∨ e = 32))

section

variable {T w w1 w2 : World}

end

/-- the shape of a graph in memory newer than T, whatever its slots and handles hold -/
structure ShG (T w : World) (ao : Option Addr) (n : Nat) (ko : Option Addr) (kn kcap : Nat) (hs : List RH) : Prop where
  s : Sh T 86 2 w ao n
  kh : Own 88 1 fR T w ko kn kcap hs
  r : ∀ k, k < kn → Sh T 32 2 w (nth dRH hs k).ao (nth dRH hs k).n
  n1 : n ≤ 10000
  n2 : kn ≤ 10000
  n3 : ∀ k, k < kn → (nth dRH hs k).n ≤ 10000

end

section


open Go.RowKit Go.ChangeShapes Go.WideShapes Go.ChangeAt

set_option linter.unusedSimpArgs false

set_option linter.unusedVariables false

attribute [local go_sem] plus_size plus_drew dn_set dn_alloc dn_plus plus_dn cell_plus frozen_plus set_plus cell_alloc frozen_alloc set_alloc

theorem Lay.take {α : Type} {f : α → List Value} {w : World} {ao : Option Addr} {n k c : Nat} {l : List α} (h : Lay f w ao n l) (hc : ∀ x, (f x).length = c) (hk : k ≤ n) : Lay f w ao k (l.take k) := by
  refine ⟨by rw [List.length_take, h.len]; omega, ?_⟩
  by_cases h0 : k = 0
  · exact .inl h0
  · obtain ⟨g, off, e, hg, hcell⟩ := h.some (by omega)
    refine .inr ⟨g, off, e, hg, fun j u hu => hcell j u ?_⟩
    have hl : l.flatMap f = (l.take k).flatMap f ++ (l.drop k).flatMap f := by rw [← List.flatMap_append, List.take_append_drop]
    rw [hl, List.getElem?_append_left (List.getElem?_eq_some_iff.1 hu).1]
    exact hu

theorem Lay.drop {α : Type} {f : α → List Value} {w : World} {g off n k c : Nat} {l : List α} (h : Lay f w (Option.some ⟨g, off, none⟩) n l) (hc : ∀ x, (f x).length = c) (hk : k ≤ n) : Lay f w (Option.some ⟨g, off + k * c, none⟩) (n - k) (l.drop k) := by
  refine ⟨by rw [List.length_drop, h.len], ?_⟩
  by_cases h0 : n - k = 0
  · exact .inl h0
  · obtain ⟨_, _, e, hg, hcell⟩ := h.some (by omega)
    cases e
    refine .inr ⟨g, off + k * c, rfl, hg, fun j u hu => ?_⟩
    rw [Nat.add_assoc]
    refine hcell (k * c + j) u ?_
    have hl : l.flatMap f = (l.take k).flatMap f ++ (l.drop k).flatMap f := by rw [← List.flatMap_append, List.take_append_drop]
    have hlen : ((l.take k).flatMap f).length = k * c := by rw [flat_length hc, List.length_take, h.len, Nat.min_eq_left hk]
    rw [hl, List.getElem?_append_right (by omega), hlen, Nat.add_sub_cancel_left]
    exact hu

theorem GrOwn.setRow {T w : World} {ao : Option Addr} {n cap kb kn kcap : Nat} {hs : List RH} {g : Gr} {k : Nat} {r : RH} {l : List (Int × Int)} (h : GrOwn T w ao n cap (some ⟨kb, 0, none⟩) kn kcap hs g) (hk : k < kn) (o : Own 32 2 f2 T w r.ao r.n r.cap l) :
    GrOwn T (w.setCell ⟨kb, k, none⟩ (.slice r.ao r.n r.cap)) ao n cap (some ⟨kb, 0, none⟩) kn kcap (hs.set k r) ⟨g.sl, g.ks.set k l⟩ := by
  obtain ⟨_, cur, e0, _, hb, _⟩ := h.kh.blk (by omega)
  cases e0
  have hs1 := h.kh.set_self (u := .slice r.ao r.n r.cap) k 0 r dRH hk fR_c (by decide) rfl
  rw [Nat.mul_one, Nat.add_zero] at hs1
  have hl := h.kh.1
  have hkl := h.kl
  refine ⟨h.sl.set_other hb (by decide), hs1, by show (hs.set k r).length = (g.ks.set k l).length; rw [List.length_set, List.length_set]; exact h.len, fun j hj => ?_⟩
  rw [List.length_set] at hj
  show Own 32 2 f2 T _ _ _ _ (nth [] (g.ks.set k l) j)
  rw [nth_set' (by omega), nth_set' (by omega)]
  by_cases e : j = k
  · rw [if_pos e, if_pos e]
    exact o.set_other hb (by decide)
  · rw [if_neg e, if_neg e]
    exact (h.row j hj).set_other hb (by decide)

def zeroG : Gr := ⟨[], []⟩

def RetG (w : World) (g : Gr) (er : Int) (e : Ending) (w' : World) : Prop := ∃ ao' cap' ko' kcap' hs', e = .returned (.tuple #[.agg #[.slice ao' g.sl.length cap', .slice ko' g.ks.length kcap'], .int .i64 er]) ∧ (∃ y, w' = plus w y) ∧ GrOwn w w' ao' g.sl.length cap' ko' g.ks.length kcap' hs' g

def unlinkRes (g : Gr) (p : Int × Int) (k : Int) : Gr := if unlinkErr g p k = 0 then unlinkG g p k else zeroG

end

section


open Go.RowKit Go.ChangeShapes Go.WideShapes Go.ChangeAt

set_option linter.unusedSimpArgs false

set_option linter.unusedVariables false

attribute [local go_sem] plus_size plus_drew dn_set dn_alloc dn_plus plus_dn cell_plus frozen_plus set_plus cell_alloc frozen_alloc set_alloc

def makeRes (g : Gr) : Gr := if makeGErr g = 0 then makeG g else zeroG

def makeS (g : Gr) : Int := if makeGErr g = 0 then mkSlot g.sl else 0

def makeH (g : Gr) : Int := if makeGErr g = 0 then mkGen g.sl else 0

def RetGM (w : World) (g : Gr) (s h er : Int) (e : Ending) (w' : World) : Prop := ∃ ao' cap' ko' kcap' hs', e = .returned (.tuple #[.agg #[.slice ao' g.sl.length cap', .slice ko' g.ks.length kcap'], .agg #[.int .i64 s, .int .i64 h], .int .i64 er]) ∧ (∃ y, w' = plus w y) ∧ GrOwn w w' ao' g.sl.length cap' ko' g.ks.length kcap' hs' g

def g10S (i : Nat) : List Nat := match i with | 0 => [42] | 1 => [43] | 4 => [4] | _ => []

def g10Φ (xv hv : Value) (b1 : Nat) (o1 : Obj) (b2 : Nat) (o2 : Obj) (i : Nat) (t : Nat → Value) (w' : World) : Prop := match i with
  | 0 => t 42 = xv
  | 1 => t 43 = hv
  | 2 => w'.heap[b1]? = some o1
  | 3 => w'.heap[b2]? = some o2
  | 4 => t 4 = .int .i64 0
  | _ => True

end

section


open Go.RowKit Go.ChangeShapes Go.WideShapes Go.ChangeAt

set_option linter.unusedSimpArgs false

set_option linter.unusedVariables false

attribute [local go_sem] plus_size plus_drew dn_set dn_alloc dn_plus plus_dn cell_plus frozen_plus set_plus cell_alloc frozen_alloc set_alloc

def l12S (i : Nat) : List Nat := match i with | 0 => [55] | 1 => [56] | 4 => [4] | _ => []

def l12Φ (g1 m c1 k : Nat) (gn : Int) (b1 : Nat) (o1 : Obj) (b2 : Nat) (o2 : Obj) (i : Nat) (t : Nat → Value) (w' : World) : Prop := match i with
  | 0 => t 55 = .agg #[.slice (some ⟨g1, 0, none⟩) m c1]
  | 1 => t 56 = .agg #[.int .i64 k, .int .i64 gn]
  | 2 => w'.heap[b1]? = some o1
  | 3 => w'.heap[b2]? = some o2
  | 4 => t 4 = .int .i64 0
  | _ => True

end

section


open Go.RowKit

section

variable {P : Program} {md : Region.Mode} {ops : Array Oper} {Q : Exit → Act → World → Prop}

variable {n : Nat} {S : Nat → List Nat} {Φ : Nat → (Nat → Value) → World → Prop} {a0 : Act} {w0 : World}

/-- the steps that are to be shown, one an operation -/
def Steps5 (P : Program) (md : Region.Mode) (ops : Array Oper) (n : Nat) (Φ : Nat → (Nat → Value) → World → Prop) (a0 : Act) (w0 : World) (Q : Exit → Act → World → Prop) : List Oper → Nat → Prop
  | [], _ => True
  | o :: r, i => (∀ a w, (∃ x, w = plus w0 x) → (∀ s, ((ops.toList.take n).any fun o => o.dst == some s) = false → got a s = got a0 s) → (∀ j, deepB md ops ops.size 8 i j = true → Φ j (got a) w) →
      o.wp P a w (fun a' w' => ∃ v, a' = a.put o.dst v ∧ (∃ x, w' = plus w x) ∧ Φ i (upd (got a) o.dst v) w') Q) ∧ Steps5 P md ops n Φ a0 w0 Q r (i + 1)

end

end

section


open Go.Maps Go.RowKit Go.ChangeShapes Go.WideShapes Go.ChangeAt

set_option linter.unusedSimpArgs false

set_option linter.unusedVariables false

attribute [local go_sem] plus_size plus_drew dn_set dn_alloc dn_plus plus_dn cell_plus frozen_plus set_plus cell_alloc frozen_alloc set_alloc

def RetTO (w : World) (l : List (Int × Int)) (er : Int) (e : Ending) (w' : World) : Prop := ∃ ao m cap, e = .returned (.tuple #[.slice ao m cap, .int .i64 er]) ∧ (∃ y, w' = plus w y) ∧ Own 32 2 f2 w w' ao m cap l

end

/- What nodes.Reaches gives. -/
section

open Go.Maps Go.RowKit Go.ChangeShapes Go.WideShapes Go.ChangeAt

set_option linter.unusedSimpArgs false

set_option linter.unusedVariables false

attribute [local go_sem] plus_size plus_drew dn_set dn_alloc dn_plus plus_dn cell_plus frozen_plus set_plus cell_alloc frozen_alloc set_alloc

def rcS (i : Nat) : List Nat := match i with | 0 => [17] | 1 => [18] | 2 => [19] | 3 => [20] | 4 => [21] | _ => []

def rcΦ (W : World) (ao : Option Addr) (n cap : Nat) (ko : Option Addr) (kn kcap : Nat) (hs : List RH) (gr : Gr) (f1 f2 t1 t2 : Int) (i : Nat) (t : Nat → Value) (w' : World) : Prop := match i with
  | 0 => t 17 = .agg #[.slice ao n cap, .slice ko kn kcap]
  | 1 => ∃ p3 p4 p1 b, t 18 = .func (.func 170) #[] #[.pointer (some ⟨p3, 0, none⟩), .pointer (some ⟨p4, 0, none⟩)] ∧ Env w' p3 p4 p1 b ao n cap ko kn kcap hs gr ∧ W.heap.size ≤ b ∧ ∃ es c, w'.heap[b]? = some (.map es c)
  | 2 => t 19 = .agg #[.int .i64 f1, .int .i64 f2]
  | 3 => ∃ q, t 20 = .slice (some ⟨q, 0, none⟩) 1 1 ∧ w'.heap[q]? = some (.cells #[.int .i64 f1, .int .i64 f2] 32)
  | 4 => t 21 = .agg #[.int .i64 t1, .int .i64 t2]
  | _ => True

end

/- What nodes.Parents gives. -/
section

open Go.Maps Go.RowKit Go.ChangeShapes Go.WideShapes Go.ChangeAt

set_option linter.unusedSimpArgs false

set_option linter.unusedVariables false

attribute [local go_sem] plus_size plus_drew dn_set dn_alloc dn_plus plus_dn cell_plus frozen_plus set_plus cell_alloc frozen_alloc set_alloc

section

variable {α : Type} {f : α → List Value} {P : Program} {w w1 T : World} {ao ao2 : Option Addr} {n m cap c c2 : Nat} {l l2 : List α} {e t : TypeId} {b : Nat} {o : Oper} {a : Act} {K : Act → World → Prop} {Q : Exit → Act → World → Prop}

end

end

/- What nodes.Make gives. -/
section

open Go.Maps Go.RowKit Go.ChangeShapes Go.WideShapes Go.ChangeAt

set_option linter.unusedSimpArgs false

set_option linter.unusedVariables false

attribute [local go_sem] plus_size plus_drew dn_set dn_alloc dn_plus plus_dn cell_plus frozen_plus set_plus cell_alloc frozen_alloc set_alloc

def nm7S (i : Nat) : List Nat := match i with | 0 => [29] | 1 => [30] | 2 => [31] | 3 => [32] | 4 => [33, 32] | 5 => [9] | _ => []

def nm7Φ (T : World) (p : Nat) (xa : Option Addr) (ln xc : Nat) (ko : Option Addr) (kn kcap : Nat) (ks : List (List (Int × Int))) (i : Nat) (t : Nat → Value) (w' : World) : Prop := match i with
  | 0 => t 29 = .agg #[.slice xa ln xc]
  | 1 => t 30 = .pointer (some ⟨p, 1, none⟩)
  | 2 => t 31 = .slice ko kn kcap
  | 3 => ∃ a c hs, t 32 = .slice a kn c ∧ KOwn T w' a kn c hs ks
  | 4 => ∃ c, t 33 = .agg #[.slice xa ln xc, c] ∧ t 32 = c
  | 5 => ∃ g, t 9 = .pointer (some ⟨g, 0, none⟩) ∧ T.heap.size ≤ g ∧ w'.heap[g]? = some (.cells #[.slice none 0 0, .slice none 0 0] 27)
  | _ => True

def mnS (i : Nat) : List Nat := match i with | 0 => [45] | 1 => [46] | 4 => [4] | _ => []

def mnΦ (xv hv : Value) (b1 : Nat) (o1 : Obj) (b2 : Nat) (o2 : Obj) (i : Nat) (t : Nat → Value) (w' : World) : Prop := match i with
  | 0 => t 45 = xv
  | 1 => t 46 = hv
  | 2 => w'.heap[b1]? = some o1
  | 3 => w'.heap[b2]? = some o2
  | 4 => t 4 = .int .i64 0
  | _ => True

end

/- Lists in memory of the call's own that are written in place: append with room, copy, clear. -/
section

open Go.RowKit Go.ChangeShapes Go.WideShapes Go.ChangeAt

set_option linter.unusedSimpArgs false

set_option linter.unusedVariables false

attribute [local go_sem] plus_size plus_drew dn_set dn_alloc dn_plus plus_dn cell_plus frozen_plus set_plus cell_alloc frozen_alloc set_alloc

section

variable {α : Type} {f : α → List Value} {P : Program} {w w' T : World} {n m cap c g i k : Nat} {l l2 L : List α} {e t : TypeId} {b : Nat} {so : Option Addr}

end

end

/- What slices.Delete gives of handles, one place out. -/
section

open Go.RowKit Go.ChangeShapes Go.WideShapes Go.ChangeAt

set_option linter.unusedSimpArgs false

set_option linter.unusedVariables false

attribute [local go_sem] plus_size plus_drew dn_set dn_alloc dn_plus plus_dn cell_plus frozen_plus set_plus cell_alloc frozen_alloc set_alloc

def dl1S (i : Nat) : List Nat := match i with | 0 => [20] | 1 => [21] | 2 => [22] | 3 => [23] | 4 => [24] | 5 => [25] | _ => []

def dl1Φ (g ix n cap : Nat) (i : Nat) (t : Nat → Value) (w' : World) : Prop := match i with
  | 0 => t 20 = .slice (some ⟨g, 0, none⟩) n cap
  | 1 => t 21 = .int .i64 (ix : Int)
  | 2 => t 22 = .slice (some ⟨g, 0, none⟩) ix cap
  | 3 => t 23 = .slice (some ⟨g, 0, none⟩) n cap
  | 4 => t 24 = .int .i64 ((ix : Int) + 1)
  | 5 => t 25 = .slice (some ⟨g, 0, none⟩) (n - (ix + 1)) (cap - (ix + 1))
  | _ => True

def dl2S (i : Nat) : List Nat := match i with | 0 => [20] | 1 => [21] | 2 => [22] | 3 => [23] | 4 => [24] | 5 => [25] | _ => []

def dl2Φ (g ix n cap : Nat) (i : Nat) (t : Nat → Value) (w' : World) : Prop := match i with
  | 0 => t 20 = .slice (some ⟨g, 0, none⟩) n cap
  | 1 => t 21 = .int .i64 (ix : Int)
  | 2 => t 22 = .slice (some ⟨g, 0, none⟩) ix cap
  | 3 => t 23 = .slice (some ⟨g, 0, none⟩) n cap
  | 4 => t 24 = .int .i64 ((ix : Int) + 1)
  | 5 => t 25 = .slice (some ⟨g, (ix + 1) * 2, none⟩) (n - (ix + 1)) (cap - (ix + 1))
  | _ => True

end

section


open Go.RowKit Go.ChangeShapes Go.WideShapes Go.ChangeAt

set_option linter.unusedSimpArgs false

set_option linter.unusedVariables false

attribute [local go_sem] plus_size plus_drew dn_set dn_alloc dn_plus plus_dn cell_plus frozen_plus set_plus cell_alloc frozen_alloc set_alloc

theorem mcheck_at {w : World} {h : MH} {hs : List PH} {m : Ms} {er : Int} (he : msErr m = er) (hm : MeshAt w h hs m) : Calls Tryz.prog 77 #[.agg #[.slice h.va h.vn h.vc, .slice h.ua h.un h.uc, .slice h.pa h.pn h.pc]] w fun e w' => e = .returned (.int .i64 er) ∧ Below w.heap.size w w' :=
  he ▸ check_callsM _ _ _ _ _ _ _ _ _ hs m w hm

theorem badM_calls (h : MH) (hs : List PH) (m : Ms) {b : Bool} (hb : edMsOk m = b) (w : World) (hm : MeshAt w h hs m) : Calls Tryz.prog 76 #[.agg #[.slice h.va h.vn h.vc, .slice h.ua h.un h.uc, .slice h.pa h.pn h.pc]] w fun e w' => e = .returned (.bool !b) ∧ ∃ y, w' = plus w y := by
  subst hb
  unfold edMsOk
  obtain ⟨er, he⟩ : ∃ e, msErr m = e := ⟨_, rfl⟩
  rw [he]
  by_cases h0 : er = 0
  · subst h0
    go_enter Tryz.func76, Tryz.ntmps76
    go_wp2_with (go_at_call 77; refine (plus_post (mcheck_at he (hm.ex (by with_reducible repeat (first | exact ex_refl _ | exact ex_more9 | apply ex_alloc | apply ex_plus | apply ex_drew | apply ex_drewN))))).mono ?_; rintro e w' ⟨rfl, nx, rfl⟩)
    go_ret
    exact ⟨rfl, (by with_reducible repeat (first | exact ex_refl _ | exact ex_more9 | apply ex_alloc | apply ex_plus | apply ex_drew | apply ex_drewN))⟩
  · have d0 : (er == 0) = false := by rw [beq_eq_false_iff_ne]; exact h0
    go_enter Tryz.func76, Tryz.ntmps76
    go_wp2_with (go_at_call 77; refine (plus_post (mcheck_at he (hm.ex (by with_reducible repeat (first | exact ex_refl _ | exact ex_more9 | apply ex_alloc | apply ex_plus | apply ex_drew | apply ex_drewN))))).mono ?_; rintro e w' ⟨rfl, nx, rfl⟩)
    go_ret
    exact ⟨by simp [h0], (by with_reducible repeat (first | exact ex_refl _ | exact ex_more9 | apply ex_alloc | apply ex_plus | apply ex_drew | apply ex_drewN))⟩

set_option maxHeartbeats 2000000 in
theorem indexM_calls (ao : Option Addr) (n cap : Nat) (hs : List MH) (ps : List (List PH)) (ms : List Ms) (w : World) (hl : Lay fMh w ao n hs) (hM : MeshesAt w hs ps ms) (hn : n ≤ 9223372036854775807) :
    Calls Tryz.prog 133 #[.slice ao n cap, .func (.func 76) #[] #[]] w fun e w' => ∃ v : Int, e = .returned (.int .i64 v) ∧ decide (0 ≤ v) = (!ms.all edMsOk) ∧ ∃ y, w' = plus w y := by
  have hlen := hl.len
  have mlen := hM.len
  go_enter Tryz.func133, Tryz.ntmps133
  go_wp2
  go_loopw [8] (fun i wr => ∃ k : Nat, k ≤ n ∧ i = .int .i64 k ∧ (∀ j, j < k → edMsOk (nth ms0 ms j) = true) ∧ ∃ y, wr = plus w y) (fun i _ => n - (intOf i).toNat)
  case atStart => exact ⟨0, Nat.zero_le _, rfl, fun j hj => by omega, (by with_reducible repeat (first | exact ex_refl _ | exact ex_more9 | apply ex_alloc | apply ex_plus | apply ex_drew | apply ex_drewN))⟩
  case round =>
    obtain ⟨k, hk, rfl, hs1, y, rfl⟩ := hrel
    by_cases hkl : k < n
    · obtain ⟨g, off, rfl, hg, hcell⟩ := hl.some (by omega)
      obtain ⟨c0, c1, c2⟩ := cellMh hlen hcell hkl
      have hone := hM.one k (by omega)
      have ik : (k : Int) < (n : Int) := by omega
      cases hok : edMsOk (nth ms0 ms k)
      · replace hok := Hush9.mk hok
        go_wp2_with (go_at_call 76; refine (badM_calls _ _ _ hok.it _ (hone.ex (by with_reducible repeat (first | exact ex_refl _ | exact ex_more9 | apply ex_alloc | apply ex_plus | apply ex_drew | apply ex_drewN)))).mono ?_; rintro e w' ⟨rfl, nx, rfl⟩)
        go_ret
        exact ⟨k, rfl, by rw [all_not (k := k) (by omega) hok.it]; exact decide_eq_true (by omega), (by with_reducible repeat (first | exact ex_refl _ | exact ex_more9 | apply ex_alloc | apply ex_plus | apply ex_drew | apply ex_drewN))⟩
      · replace hok := Hush9.mk hok
        go_wp2_with (go_at_call 76; refine (badM_calls _ _ _ hok.it _ (hone.ex (by with_reducible repeat (first | exact ex_refl _ | exact ex_more9 | apply ex_alloc | apply ex_plus | apply ex_drew | apply ex_drewN)))).mono ?_; rintro e w' ⟨rfl, nx, rfl⟩)
        go_roundw
        case rel => exact ⟨k + 1, by omega, by go_num, upto_succ9 hs1 hok.it, (by with_reducible repeat (first | exact ex_refl _ | exact ex_more9 | apply ex_alloc | apply ex_plus | apply ex_drew | apply ex_drewN))⟩
        case measure => simp [intOf]; omega
    · have ik : ¬ (k : Int) < (n : Int) := by omega
      obtain rfl : n = k := by omega
      have hall : ms.all edMsOk = true := all_yes (fun j hj => hs1 j (by omega))
      replace hall := Hush9.mk hall
      clear hs1
      go_wp2
      go_ret
      exact ⟨-1, rfl, by rw [hall.it]; rfl, (by with_reducible repeat (first | exact ex_refl _ | exact ex_more9 | apply ex_alloc | apply ex_plus | apply ex_drew | apply ex_drewN))⟩

theorem containsM_calls (ao : Option Addr) (n cap : Nat) (hs : List MH) (ps : List (List PH)) (ms : List Ms) (w : World) (hl : Lay fMh w ao n hs) (hM : MeshesAt w hs ps ms) (hn : n ≤ 9223372036854775807) :
    Calls Tryz.prog 75 #[.slice ao n cap, .func (.func 76) #[] #[]] w fun e w' => e = .returned (.bool (!ms.all edMsOk)) ∧ ∃ y, w' = plus w y := by
  go_enter Tryz.func75, Tryz.ntmps75
  go_wp2_with (go_at_call 133; refine (indexM_calls ao n cap hs ps ms _ (hl.ex (by with_reducible repeat (first | exact ex_refl _ | exact ex_more9 | apply ex_alloc | apply ex_plus | apply ex_drew | apply ex_drewN))) (hM.ex (by with_reducible repeat (first | exact ex_refl _ | exact ex_more9 | apply ex_alloc | apply ex_plus | apply ex_drew | apply ex_drewN))) hn).mono ?_; rintro e w' ⟨v, rfl, hv, nx, rfl⟩; replace hv := Hush9.mk hv)
  go_ret
  exact ⟨by rw [← hv.it]; rfl, (by with_reducible repeat (first | exact ex_refl _ | exact ex_more9 | apply ex_alloc | apply ex_plus | apply ex_drew | apply ex_drewN))⟩

theorem meshes_calls (ao : Option Addr) (n cap : Nat) (hs : List MH) (ps : List (List PH)) (ms : List Ms) (w : World) (hl : Lay fMh w ao n hs) (hM : MeshesAt w hs ps ms) (hn : n ≤ 9223372036854775807) {v : Bool} (hv : (ms.all edMsOk && decide (ms.length ≤ 32)) = v) :
    Calls Tryz.prog 29 #[.slice ao n cap] w fun e w' => e = .returned (.bool v) ∧ ∃ y, w' = plus w y := by
  have hlen := hl.len
  have mlen := hM.len
  subst hv
  by_cases h32 : 32 < n
  · have i32 : (32 : Int) < (n : Int) := by omega
    go_enter Tryz.func29, Tryz.ntmps29
    go_wp2_with fail
    go_ret
    exact ⟨by rw [decide_eq_false (show ¬ ms.length ≤ 32 by omega), Bool.and_false]; rfl, (by with_reducible repeat (first | exact ex_refl _ | exact ex_more9 | apply ex_alloc | apply ex_plus | apply ex_drew | apply ex_drewN))⟩
  · have i32 : ¬ (32 : Int) < (n : Int) := by omega
    obtain ⟨b, hb⟩ : ∃ b, ms.all edMsOk = b := ⟨_, rfl⟩
    rw [decide_eq_true (show ms.length ≤ 32 by omega), Bool.and_true, hb]
    replace hb := Hush9.mk hb
    go_enter Tryz.func29, Tryz.ntmps29
    go_wp2_with (go_at_call 75; refine (containsM_calls ao n cap hs ps ms _ (hl.ex (by with_reducible repeat (first | exact ex_refl _ | exact ex_more9 | apply ex_alloc | apply ex_plus | apply ex_drew | apply ex_drewN))) (hM.ex (by with_reducible repeat (first | exact ex_refl _ | exact ex_more9 | apply ex_alloc | apply ex_plus | apply ex_drew | apply ex_drewN))) hn).mono ?_; rintro e w' ⟨rfl, nx, rfl⟩; rw [hb.it])
    go_ret
    exact ⟨by cases b <;> rfl, (by with_reducible repeat (first | exact ex_refl _ | exact ex_more9 | apply ex_alloc | apply ex_plus | apply ex_drew | apply ex_drewN))⟩

set_option maxRecDepth 100000 in
set_option maxHeartbeats 4000000 in
theorem nodes_calls (h : SH) (x : SX) (s : Sc) (w : World) (hA : ScAt w h x s) (hok : grOk s.g = true) {v : Bool} (hv : (decide (s.ns.length = s.g.ks.length) && nodesOk s) = v) : Calls Tryz.prog 28 #[vS h] w fun e w' => e = .returned (.bool v) ∧ ∃ y, w' = plus w y := by
  have hS := hA.small
  have hG := hA.g
  have hR := hA.r
  have lmn := hA.mn.1
  have ltn := hA.tn.1
  clear hA
  obtain ⟨ga, gn, gc, ka, kn, kc, na, nn, nc, ma, mn, mc, ta, tn, tc, r0, r1⟩ := h
  have nl := hR.nl
  have ns := hR.ns
  have ml := hR.ml
  have ms := hR.ms
  have tl := hR.tl
  have ts := hR.ts
  have n3 := hR.n3
  have n1 := hR.n1
  have n2 := hR.n2
  have hr := hR.root
  simp only at nl ml ms tl ts n1 n2 n3 hr hG
  clear hR
  have nlen := nl.len
  have nlen2 := ns.len
  have mlen := ml.len
  have mlen2 := ms.len
  unfold vS
  simp only at lmn ltn ⊢
  obtain ⟨_, gok, _, _⟩ := gr_parts hok
  have gl := hG.kl
  have gs := hG.sl
  have gsl := gs.len
  have gk := hG.kh
  have gkl := gk.len
  obtain rfl : gn = kn := by omega
  by_cases hnk : nn = gn
  rotate_left
  · have dne : ((nn : Int) == (gn : Int)) = false := by rw [beq_eq_false_iff_ne]; omega
    rw [decide_eq_false (show ¬ s.ns.length = s.g.ks.length by omega), Bool.false_and] at hv
    subst hv
    go_enter Tryz.func28, Tryz.ntmps28
    go_wp2_with fail
    go_ret
    exact ⟨rfl, (by with_reducible repeat (first | exact ex_refl _ | exact ex_more9 | apply ex_alloc | apply ex_plus | apply ex_drew | apply ex_drewN))⟩
  obtain rfl := hnk
  rw [decide_eq_true (show s.ns.length = s.g.ks.length by omega), Bool.true_and] at hv
  replace hv := Hush9.mk hv
  obtain ⟨b, hb⟩ : ∃ b, w.heap.size = b := ⟨_, rfl⟩
  go_enter Tryz.func28, Tryz.ntmps28
  go_upto_region 1 with fail
  refine name_w (fun w' => (∃ y, w' = plus w y) ∧ w'.heap[b]? = some (.cells #[.slice ga nn gc, .slice ka nn kc, .slice na nn nc, .slice ma mn mc, .slice ta tn tc, .int .i64 r0, .int .i64 r1] 34)) ⟨(by with_reducible repeat (first | exact ex_refl _ | exact ex_more9 | apply ex_alloc | apply ex_plus | apply ex_drew | apply ex_drewN)), hb ▸ blk_new2 _ _⟩ ?_
  try simp only [hb]
  rintro w1 ⟨x1, k0⟩
  have c0 := cell_blk (i := 0) k0 rfl
  have c1 := cell_blk (i := 1) k0 rfl
  have c2 := cell_blk (i := 2) k0 rfl
  have c3 := cell_blk (i := 3) k0 rfl
  have c4 := cell_blk (i := 4) k0 rfl
  have c5 := cell_blk (i := 5) k0 rfl
  have c6 := cell_blk (i := 6) k0 rfl
  go_wp2
  go_loopw [17] (fun i wr => ∃ k : Nat, k ≤ nn ∧ i = .int .i64 k ∧ (∀ j, j < k → nodeOk s j = true) ∧ ∃ y, wr = plus w1 y) (fun i _ => nn - (intOf i).toNat)
  case atStart => exact ⟨0, Nat.zero_le _, rfl, fun j hj => by omega, (by with_reducible repeat (first | exact ex_refl _ | exact ex_more9 | apply ex_alloc | apply ex_plus | apply ex_drew | apply ex_drewN))⟩
  case round =>
    obtain ⟨k, hk, rfl, hs1, hx⟩ := hrel
    by_cases hkl : k < nn
    · obtain ⟨g, off, rfl, hgl, hcell⟩ := nl.some (by omega)
      obtain ⟨g', off', rfl, hgl', hcell'⟩ := gs.some (by omega)
      obtain ⟨g'', off'', rfl, hgl'', hcell''⟩ := gk.some (by omega)
      have ik : (k : Int) < (nn : Int) := by omega
      have hp := Hush9.mk (lay_part (d := nh0) nlen fN_c hcell hkl)
      have kr := cell_ex (ex_trans x1 hx) (cellR gkl hcell'' hkl)
      have kv := cell_ex (ex_trans x1 hx) (cellS gsl hcell' (k := k) (by omega)).2
      have a1 := (ns.one k (by omega)).ex (ex_trans x1 hx)
      have s1 := hS.n k (by omega)
      have hrl : (nth [] s.g.ks k).length = (nth dRH x.gr k).n := (hG.row k (by omega)).len
      obtain ⟨bk, hbk⟩ : ∃ v, nodeOk s k = v := ⟨_, rfl⟩
      have hfit : (if (nth dSl s.g.sl k).live then mayNd mn tn (nth nd0 s.ns k) && (!decide ((nth nd0 s.ns k).f.kind = 5) || decide ((nth dRH x.gr k).n = 0)) else sameNd (nth nd0 s.ns k) nd0) = bk := by
        rw [← hbk, fits_node, fits, lmn, ltn, hrl]
      replace hfit := Hush9.mk hfit
      replace hbk := Hush9.mk hbk
      have cb0 := cell_ex hx c0
      have cb1 := cell_ex hx c1
      have cb2 := cell_ex hx c2
      have cb3 := cell_ex hx c3
      have cb4 := cell_ex hx c4
      have cb5 := cell_ex hx c5
      have cb6 := cell_ex hx c6
      have kb := blk_ex hx k0
      have lkb := blk_lt kb
      clear c0 c1 c2 c3 c4 c5 c6 hcell hcell' hcell''
      obtain ⟨q, hq⟩ : ∃ q, wr.heap.size = q := ⟨_, rfl⟩
      go_upto_region 6 with (first | (refine wpList_load_part rfl 56 _ rfl g (off + k * 33) rfl (fN (nth nh0 x.nh k)) _ (fun j v hj => cell_ex (ex_trans (ex_trans x1 hx) (by with_reducible repeat (first | exact ex_refl _ | exact ex_more9 | apply ex_alloc | apply ex_plus | apply ex_drew | apply ex_drewN))) (hp.it j v hj)) Tryz.underlying56 rfl (by kernel_rfl) ?_; simp only [Act.put, List.setIfInBounds_toArray, List.set_cons_succ, List.set_cons_zero]) | (refine wpList_store_box rfl 56 _ _ rfl q (fN (nth nh0 x.nh k)) (by simp [go_sem, hq]) rfl _ _ (by rw [← hq]; exact blk_new2 _ _) (by kernel_rfl) (by kernel_rfl) (fN_1 _) ?_))
      refine name_w (fun w' => (∃ y, w' = plus wr y) ∧ w'.heap[q]? = some (.cells (fN (nth nh0 x.nh k)).toArray 56)) ⟨ex_row_new (by with_reducible repeat (first | exact ex_refl _ | exact ex_more9 | apply ex_alloc | apply ex_plus | apply ex_drew | apply ex_drewN)) (by omega), blk_row_eq (by rw [← hq]; exact blk_new2 _ _)⟩ ?_
      try simp only [hq]
      rintro w2 ⟨x2, kq⟩
      have lq := blk_lt kq
      have db0 := cell_ex x2 cb0
      have db1 := cell_ex x2 cb1
      have db2 := cell_ex x2 cb2
      have db3 := cell_ex x2 cb3
      have db4 := cell_ex x2 cb4
      have db5 := cell_ex x2 cb5
      have db6 := cell_ex x2 cb6
      clear cb0 cb1 cb2 cb3 cb4 cb5 cb6 kb
      cases bk
      · go_wp2_with (first | (refine wpList_load_row rfl 56 _ rfl q rfl _ _ _ _ kq Tryz.underlying56 rfl (by kernel_rfl) ?_) | (go_at_call 74; refine (fits_calls _ _ _ _ _ _ _ _ _ _ _ _ _ _ _ _ _ _ _ k (nth nh0 x.nh k) (nth nd0 s.ns k) _ _ _ _ _ (a1.ex (ex_trans x2 (by with_reducible repeat (first | exact ex_refl _ | exact ex_more9 | apply ex_alloc | apply ex_plus | apply ex_drew | apply ex_drewN)))) s1 (cell_ex (ex_trans x2 (by with_reducible repeat (first | exact ex_refl _ | exact ex_more9 | apply ex_alloc | apply ex_plus | apply ex_drew | apply ex_drewN))) kv) (cell_ex (ex_trans x2 (by with_reducible repeat (first | exact ex_refl _ | exact ex_more9 | apply ex_alloc | apply ex_plus | apply ex_drew | apply ex_drewN))) kr) (by omega) (by omega) hfit.it).mono ?_; rintro e w' ⟨rfl, nx, rfl⟩))
        go_ret
        have hno : nodesOk s = false := by
          cases h2 : nodesOk s
          · rfl
          · simp only [nodesOk, List.all_eq_true, List.mem_range] at h2
            rw [h2 k (by omega)] at hbk
            cases hbk.it
        exact ⟨by rw [← hv.it, hno]; rfl, ex_trans (ex_trans (ex_trans x1 hx) x2) (by with_reducible repeat (first | exact ex_refl _ | exact ex_more9 | apply ex_alloc | apply ex_plus | apply ex_drew | apply ex_drewN))⟩
      · go_wp2_with (first | (refine wpList_load_row rfl 56 _ rfl q rfl _ _ _ _ kq Tryz.underlying56 rfl (by kernel_rfl) ?_) | (go_at_call 74; refine (fits_calls _ _ _ _ _ _ _ _ _ _ _ _ _ _ _ _ _ _ _ k (nth nh0 x.nh k) (nth nd0 s.ns k) _ _ _ _ _ (a1.ex (ex_trans x2 (by with_reducible repeat (first | exact ex_refl _ | exact ex_more9 | apply ex_alloc | apply ex_plus | apply ex_drew | apply ex_drewN)))) s1 (cell_ex (ex_trans x2 (by with_reducible repeat (first | exact ex_refl _ | exact ex_more9 | apply ex_alloc | apply ex_plus | apply ex_drew | apply ex_drewN))) kv) (cell_ex (ex_trans x2 (by with_reducible repeat (first | exact ex_refl _ | exact ex_more9 | apply ex_alloc | apply ex_plus | apply ex_drew | apply ex_drewN))) kr) (by omega) (by omega) hfit.it).mono ?_; rintro e w' ⟨rfl, nx, rfl⟩))
        go_roundw
        case rel => exact ⟨k + 1, by omega, by go_num, upto_succ9 hs1 hbk.it, ex_trans (ex_trans hx x2) (by with_reducible repeat (first | exact ex_refl _ | exact ex_more9 | apply ex_alloc | apply ex_plus | apply ex_drew | apply ex_drewN))⟩
        case measure => simp [intOf]; omega
    · have ik : ¬ (k : Int) < (nn : Int) := by omega
      obtain rfl : nn = k := by omega
      have hall : nodesOk s = true := by
        simp only [nodesOk, List.all_eq_true, List.mem_range]
        exact fun j hj => hs1 j (by omega)
      replace hall := Hush9.mk hall
      clear hs1
      go_wp2
      go_ret
      exact ⟨by rw [← hv.it, hall.it]; rfl, ex_trans (ex_trans x1 hx) (by with_reducible repeat (first | exact ex_refl _ | exact ex_more9 | apply ex_alloc | apply ex_plus | apply ex_drew | apply ex_drewN))⟩

end

section


open Go.RowKit Go.ChangeShapes Go.WideShapes Go.ChangeAt

set_option linter.unusedSimpArgs false

set_option linter.unusedVariables false

attribute [local go_sem] plus_size plus_drew dn_set dn_alloc dn_plus plus_dn cell_plus frozen_plus set_plus cell_alloc frozen_alloc set_alloc

theorem checksT_is {x : SX} {s : Sc} {w : World} (hT : TexsAt w x.th s.ts) : checksT x.th = if 16 < s.ts.length then 4 else if s.ts.all mayTp then 0 else 8 := by
  have hl := hT.len
  unfold checksT
  rw [hl]
  split
  · rfl
  have : x.th.all mayH = s.ts.all mayTp := by
    rw [Bool.eq_iff_iff, List.all_eq_true, List.all_eq_true]
    constructor
    · intro h t ht
      obtain ⟨k, hk, rfl⟩ := List.getElem_of_mem ht
      have h1 := h _ (nth_mem (d := th0) (k := k) (by omega))
      have h2 := texMay (hT.one k (by omega))
      rw [mayH, h2, nth_eq hk] at h1
      exact h1
    · intro h t ht
      obtain ⟨k, hk, rfl⟩ := List.getElem_of_mem ht
      have h1 := h _ (nth_mem (d := tp0) (k := k) (by omega))
      have h2 := texMay (hT.one k hk)
      rw [← h2, nth_eq hk] at h1
      exact h1
  rw [this]

theorem nodes_is {ga ka na ma ta : Option Addr} {gn gc kn kc nn nc mn mc tn tc : Nat} {r0 r1 : Int} {x : SX} {s : Sc} {w : World} (hA : ScAt w ⟨ga, gn, gc, ka, kn, kc, na, nn, nc, ma, mn, mc, ta, tn, tc, r0, r1⟩ x s) (hok : grOk s.g = true) {v : Bool} (hv : (decide (s.ns.length = s.g.ks.length) && nodesOk s) = v) : Calls Tryz.prog 28 #[.agg #[.slice ga gn gc, .slice ka kn kc, .slice na nn nc, .slice ma mn mc, .slice ta tn tc, .int .i64 r0, .int .i64 r1]] w fun e w' => e = .returned (.bool v) ∧ ∃ y, w' = plus w y := nodes_calls ⟨ga, gn, gc, ka, kn, kc, na, nn, nc, ma, mn, mc, ta, tn, tc, r0, r1⟩ x s w hA hok hv

set_option maxHeartbeats 4000000 in
theorem lcheck10_calls (h : SH) (x : SX) (s : Sc) (w : World) (hA : ScAt w h x s) : Calls Tryz.prog 12 #[vS h] w fun e w' => e = .returned (.int .i64 (scErr s)) ∧ ∃ y, w' = plus w y := by
  have hG := hA.g
  have hR := hA.r
  have hroot := hR.root
  have ml := hR.ml
  have ms := hR.ms
  have tl := hR.tl
  have ts := hR.ts
  have n2 := hR.n2
  have n3 := hR.n3
  have hcx := checksT_is hR.ts
  obtain ⟨ga, gn, gc, ka, kn, kc, na, nn, nc, ma, mn, mc, ta, tn, tc, r0, r1⟩ := h
  unfold vS
  simp only at hG ml tl n2 n3 hroot ⊢
  have gs := hG.sl
  have g1 := hG.n1
  obtain ⟨b1, hb1⟩ : ∃ b, grOk s.g = b := ⟨_, rfl⟩
  obtain ⟨b2, hb2⟩ : ∃ b, (decide (s.ns.length = s.g.ks.length) && nodesOk s) = b := ⟨_, rfl⟩
  obtain ⟨b3, hb3⟩ : ∃ b, (s.ms.all edMsOk && decide (s.ms.length ≤ 32)) = b := ⟨_, rfl⟩
  obtain ⟨b4, hb4⟩ : ∃ b, (s.ts.all mayTp && decide (s.ts.length ≤ 16)) = b := ⟨_, rfl⟩
  obtain ⟨b5, hb5⟩ : ∃ b, (decide ((r0, r1) = ((0, 0) : Int × Int)) || heldIn s.g.sl r0 r1) = b := ⟨_, rfl⟩
  obtain ⟨cx, hcx2⟩ : ∃ c, checksT x.th = c := ⟨_, rfl⟩
  have hc4 : (cx = 0) = (b4 = true) := by
    rw [← hcx2, hcx, ← hb4]
    by_cases e1 : 16 < s.ts.length <;> cases e2 : s.ts.all mayTp <;> simp [e1] <;> omega
  have hc48 : b4 = false → cx = 4 ∨ cx = 8 := by
    intro e
    rw [← hcx2, hcx]
    rw [← hb4] at e
    by_cases e1 : 16 < s.ts.length
    · rw [if_pos e1]; exact .inl rfl
    · rw [if_neg e1]
      rw [decide_eq_true (show s.ts.length ≤ 16 by omega), Bool.and_true] at e
      rw [e]; exact .inr rfl
  have hres : scErr s = if b1 && (b2 && (b3 && (b4 && b5))) then 0 else 8 := by
    unfold scErr
    congr 2
    unfold maySc storesOk rootOk
    rw [hroot, hb1, ← hb2, ← hb3, ← hb4, ← hb5]
    generalize decide (s.ns.length = s.g.ks.length) = q1
    generalize s.ms.all edMsOk = q2
    generalize s.ts.all mayTp = q3
    generalize decide (s.ms.length ≤ 32) = q4
    generalize decide (s.ts.length ≤ 16) = q5
    generalize nodesOk s = q6
    cases b1 <;> cases q1 <;> cases q2 <;> cases q3 <;> cases q4 <;> cases q5 <;> cases q6 <;> rfl
  rw [hres]
  clear hres hcx
  replace hb2 := Hush9.mk hb2
  replace hb3 := Hush9.mk hb3
  replace hb5 := Hush9.mk hb5
  replace hcx2 := Hush9.mk hcx2
  have hgo : b1 = true → arOk s.g.sl = true := fun e => (gr_parts (hb1.trans e)).1
  have hgp : b1 = true → grOk s.g = true := fun e => hb1.trans e
  have her : grErr s.g = if b1 then 0 else 8 := by rw [grErr, hb1]
  replace her := Hush9.mk her
  clear hb1
  cases b1
  · go_enter Tryz.func12, Tryz.ntmps12
    go_wp2_with (first | (go_at_call 27; refine (plus_post (her.it ▸ ncheck_calls _ _ _ _ _ _ x.gr s.g _ (hG.ex (by with_reducible repeat (first | exact ex_refl _ | exact ex_more9 | apply ex_alloc | apply ex_plus | apply ex_drew | apply ex_drewN))))).mono ?_; rintro e w' ⟨rfl, nx, rfl⟩) | (go_at_call 28; refine (nodes_is (hA.ex (by with_reducible repeat (first | exact ex_refl _ | exact ex_more9 | apply ex_alloc | apply ex_plus | apply ex_drew | apply ex_drewN))) hgg.it hb2.it).mono ?_; rintro e w' ⟨rfl, nx, rfl⟩) | (go_at_call 29; refine (meshes_calls _ _ _ x.mh x.ph s.ms _ (ml.ex (by with_reducible repeat (first | exact ex_refl _ | exact ex_more9 | apply ex_alloc | apply ex_plus | apply ex_drew | apply ex_drewN))) (ms.ex (by with_reducible repeat (first | exact ex_refl _ | exact ex_more9 | apply ex_alloc | apply ex_plus | apply ex_drew | apply ex_drewN))) n2 hb3.it).mono ?_; rintro e w' ⟨rfl, nx, rfl⟩) | (go_at_call 30; refine (tchecks_is hcx2.it (tl.ex (by with_reducible repeat (first | exact ex_refl _ | exact ex_more9 | apply ex_alloc | apply ex_plus | apply ex_drew | apply ex_drewN))) n3).mono ?_; rintro e w' ⟨rfl, nx, rfl⟩) | (go_at_call 31; refine (lroot_calls _ _ _ _ _ _ _ _ _ _ _ _ _ _ _ _ _ _ _ s.g.sl _ (gs.ex (by with_reducible repeat (first | exact ex_refl _ | exact ex_more9 | apply ex_alloc | apply ex_plus | apply ex_drew | apply ex_drewN))) g1 hga.it hb5.it).mono ?_; rintro e w' ⟨rfl, nx, rfl⟩))
    go_ret
    exact ⟨rfl, (by with_reducible repeat (first | exact ex_refl _ | exact ex_more9 | apply ex_alloc | apply ex_plus | apply ex_drew | apply ex_drewN))⟩
  have hga := Hush9.mk (hgo rfl)
  have hgg := Hush9.mk (hgp rfl)
  clear hgo hgp
  cases b2
  · go_enter Tryz.func12, Tryz.ntmps12
    go_wp2_with (first | (go_at_call 27; refine (plus_post (her.it ▸ ncheck_calls _ _ _ _ _ _ x.gr s.g _ (hG.ex (by with_reducible repeat (first | exact ex_refl _ | exact ex_more9 | apply ex_alloc | apply ex_plus | apply ex_drew | apply ex_drewN))))).mono ?_; rintro e w' ⟨rfl, nx, rfl⟩) | (go_at_call 28; refine (nodes_is (hA.ex (by with_reducible repeat (first | exact ex_refl _ | exact ex_more9 | apply ex_alloc | apply ex_plus | apply ex_drew | apply ex_drewN))) hgg.it hb2.it).mono ?_; rintro e w' ⟨rfl, nx, rfl⟩) | (go_at_call 29; refine (meshes_calls _ _ _ x.mh x.ph s.ms _ (ml.ex (by with_reducible repeat (first | exact ex_refl _ | exact ex_more9 | apply ex_alloc | apply ex_plus | apply ex_drew | apply ex_drewN))) (ms.ex (by with_reducible repeat (first | exact ex_refl _ | exact ex_more9 | apply ex_alloc | apply ex_plus | apply ex_drew | apply ex_drewN))) n2 hb3.it).mono ?_; rintro e w' ⟨rfl, nx, rfl⟩) | (go_at_call 30; refine (tchecks_is hcx2.it (tl.ex (by with_reducible repeat (first | exact ex_refl _ | exact ex_more9 | apply ex_alloc | apply ex_plus | apply ex_drew | apply ex_drewN))) n3).mono ?_; rintro e w' ⟨rfl, nx, rfl⟩) | (go_at_call 31; refine (lroot_calls _ _ _ _ _ _ _ _ _ _ _ _ _ _ _ _ _ _ _ s.g.sl _ (gs.ex (by with_reducible repeat (first | exact ex_refl _ | exact ex_more9 | apply ex_alloc | apply ex_plus | apply ex_drew | apply ex_drewN))) g1 hga.it hb5.it).mono ?_; rintro e w' ⟨rfl, nx, rfl⟩))
    go_ret
    exact ⟨rfl, (by with_reducible repeat (first | exact ex_refl _ | exact ex_more9 | apply ex_alloc | apply ex_plus | apply ex_drew | apply ex_drewN))⟩
  cases b3
  · go_enter Tryz.func12, Tryz.ntmps12
    go_wp2_with (first | (go_at_call 27; refine (plus_post (her.it ▸ ncheck_calls _ _ _ _ _ _ x.gr s.g _ (hG.ex (by with_reducible repeat (first | exact ex_refl _ | exact ex_more9 | apply ex_alloc | apply ex_plus | apply ex_drew | apply ex_drewN))))).mono ?_; rintro e w' ⟨rfl, nx, rfl⟩) | (go_at_call 28; refine (nodes_is (hA.ex (by with_reducible repeat (first | exact ex_refl _ | exact ex_more9 | apply ex_alloc | apply ex_plus | apply ex_drew | apply ex_drewN))) hgg.it hb2.it).mono ?_; rintro e w' ⟨rfl, nx, rfl⟩) | (go_at_call 29; refine (meshes_calls _ _ _ x.mh x.ph s.ms _ (ml.ex (by with_reducible repeat (first | exact ex_refl _ | exact ex_more9 | apply ex_alloc | apply ex_plus | apply ex_drew | apply ex_drewN))) (ms.ex (by with_reducible repeat (first | exact ex_refl _ | exact ex_more9 | apply ex_alloc | apply ex_plus | apply ex_drew | apply ex_drewN))) n2 hb3.it).mono ?_; rintro e w' ⟨rfl, nx, rfl⟩) | (go_at_call 30; refine (tchecks_is hcx2.it (tl.ex (by with_reducible repeat (first | exact ex_refl _ | exact ex_more9 | apply ex_alloc | apply ex_plus | apply ex_drew | apply ex_drewN))) n3).mono ?_; rintro e w' ⟨rfl, nx, rfl⟩) | (go_at_call 31; refine (lroot_calls _ _ _ _ _ _ _ _ _ _ _ _ _ _ _ _ _ _ _ s.g.sl _ (gs.ex (by with_reducible repeat (first | exact ex_refl _ | exact ex_more9 | apply ex_alloc | apply ex_plus | apply ex_drew | apply ex_drewN))) g1 hga.it hb5.it).mono ?_; rintro e w' ⟨rfl, nx, rfl⟩))
    go_ret
    exact ⟨rfl, (by with_reducible repeat (first | exact ex_refl _ | exact ex_more9 | apply ex_alloc | apply ex_plus | apply ex_drew | apply ex_drewN))⟩
  cases b4
  · have h48 := hc48 rfl
    clear hc4 hc48
    rcases h48 with rfl | rfl
    · go_enter Tryz.func12, Tryz.ntmps12
      go_wp2_with (first | (go_at_call 27; refine (plus_post (her.it ▸ ncheck_calls _ _ _ _ _ _ x.gr s.g _ (hG.ex (by with_reducible repeat (first | exact ex_refl _ | exact ex_more9 | apply ex_alloc | apply ex_plus | apply ex_drew | apply ex_drewN))))).mono ?_; rintro e w' ⟨rfl, nx, rfl⟩) | (go_at_call 28; refine (nodes_is (hA.ex (by with_reducible repeat (first | exact ex_refl _ | exact ex_more9 | apply ex_alloc | apply ex_plus | apply ex_drew | apply ex_drewN))) hgg.it hb2.it).mono ?_; rintro e w' ⟨rfl, nx, rfl⟩) | (go_at_call 29; refine (meshes_calls _ _ _ x.mh x.ph s.ms _ (ml.ex (by with_reducible repeat (first | exact ex_refl _ | exact ex_more9 | apply ex_alloc | apply ex_plus | apply ex_drew | apply ex_drewN))) (ms.ex (by with_reducible repeat (first | exact ex_refl _ | exact ex_more9 | apply ex_alloc | apply ex_plus | apply ex_drew | apply ex_drewN))) n2 hb3.it).mono ?_; rintro e w' ⟨rfl, nx, rfl⟩) | (go_at_call 30; refine (tchecks_is hcx2.it (tl.ex (by with_reducible repeat (first | exact ex_refl _ | exact ex_more9 | apply ex_alloc | apply ex_plus | apply ex_drew | apply ex_drewN))) n3).mono ?_; rintro e w' ⟨rfl, nx, rfl⟩) | (go_at_call 31; refine (lroot_calls _ _ _ _ _ _ _ _ _ _ _ _ _ _ _ _ _ _ _ s.g.sl _ (gs.ex (by with_reducible repeat (first | exact ex_refl _ | exact ex_more9 | apply ex_alloc | apply ex_plus | apply ex_drew | apply ex_drewN))) g1 hga.it hb5.it).mono ?_; rintro e w' ⟨rfl, nx, rfl⟩))
      go_ret
      exact ⟨rfl, (by with_reducible repeat (first | exact ex_refl _ | exact ex_more9 | apply ex_alloc | apply ex_plus | apply ex_drew | apply ex_drewN))⟩
    · go_enter Tryz.func12, Tryz.ntmps12
      go_wp2_with (first | (go_at_call 27; refine (plus_post (her.it ▸ ncheck_calls _ _ _ _ _ _ x.gr s.g _ (hG.ex (by with_reducible repeat (first | exact ex_refl _ | exact ex_more9 | apply ex_alloc | apply ex_plus | apply ex_drew | apply ex_drewN))))).mono ?_; rintro e w' ⟨rfl, nx, rfl⟩) | (go_at_call 28; refine (nodes_is (hA.ex (by with_reducible repeat (first | exact ex_refl _ | exact ex_more9 | apply ex_alloc | apply ex_plus | apply ex_drew | apply ex_drewN))) hgg.it hb2.it).mono ?_; rintro e w' ⟨rfl, nx, rfl⟩) | (go_at_call 29; refine (meshes_calls _ _ _ x.mh x.ph s.ms _ (ml.ex (by with_reducible repeat (first | exact ex_refl _ | exact ex_more9 | apply ex_alloc | apply ex_plus | apply ex_drew | apply ex_drewN))) (ms.ex (by with_reducible repeat (first | exact ex_refl _ | exact ex_more9 | apply ex_alloc | apply ex_plus | apply ex_drew | apply ex_drewN))) n2 hb3.it).mono ?_; rintro e w' ⟨rfl, nx, rfl⟩) | (go_at_call 30; refine (tchecks_is hcx2.it (tl.ex (by with_reducible repeat (first | exact ex_refl _ | exact ex_more9 | apply ex_alloc | apply ex_plus | apply ex_drew | apply ex_drewN))) n3).mono ?_; rintro e w' ⟨rfl, nx, rfl⟩) | (go_at_call 31; refine (lroot_calls _ _ _ _ _ _ _ _ _ _ _ _ _ _ _ _ _ _ _ s.g.sl _ (gs.ex (by with_reducible repeat (first | exact ex_refl _ | exact ex_more9 | apply ex_alloc | apply ex_plus | apply ex_drew | apply ex_drewN))) g1 hga.it hb5.it).mono ?_; rintro e w' ⟨rfl, nx, rfl⟩))
      go_ret
      exact ⟨rfl, (by with_reducible repeat (first | exact ex_refl _ | exact ex_more9 | apply ex_alloc | apply ex_plus | apply ex_drew | apply ex_drewN))⟩
  obtain rfl : cx = 0 := by rw [hc4]
  clear hc4 hc48
  cases b5
  · go_enter Tryz.func12, Tryz.ntmps12
    go_wp2_with (first | (go_at_call 27; refine (plus_post (her.it ▸ ncheck_calls _ _ _ _ _ _ x.gr s.g _ (hG.ex (by with_reducible repeat (first | exact ex_refl _ | exact ex_more9 | apply ex_alloc | apply ex_plus | apply ex_drew | apply ex_drewN))))).mono ?_; rintro e w' ⟨rfl, nx, rfl⟩) | (go_at_call 28; refine (nodes_is (hA.ex (by with_reducible repeat (first | exact ex_refl _ | exact ex_more9 | apply ex_alloc | apply ex_plus | apply ex_drew | apply ex_drewN))) hgg.it hb2.it).mono ?_; rintro e w' ⟨rfl, nx, rfl⟩) | (go_at_call 29; refine (meshes_calls _ _ _ x.mh x.ph s.ms _ (ml.ex (by with_reducible repeat (first | exact ex_refl _ | exact ex_more9 | apply ex_alloc | apply ex_plus | apply ex_drew | apply ex_drewN))) (ms.ex (by with_reducible repeat (first | exact ex_refl _ | exact ex_more9 | apply ex_alloc | apply ex_plus | apply ex_drew | apply ex_drewN))) n2 hb3.it).mono ?_; rintro e w' ⟨rfl, nx, rfl⟩) | (go_at_call 30; refine (tchecks_is hcx2.it (tl.ex (by with_reducible repeat (first | exact ex_refl _ | exact ex_more9 | apply ex_alloc | apply ex_plus | apply ex_drew | apply ex_drewN))) n3).mono ?_; rintro e w' ⟨rfl, nx, rfl⟩) | (go_at_call 31; refine (lroot_calls _ _ _ _ _ _ _ _ _ _ _ _ _ _ _ _ _ _ _ s.g.sl _ (gs.ex (by with_reducible repeat (first | exact ex_refl _ | exact ex_more9 | apply ex_alloc | apply ex_plus | apply ex_drew | apply ex_drewN))) g1 hga.it hb5.it).mono ?_; rintro e w' ⟨rfl, nx, rfl⟩))
    go_ret
    exact ⟨rfl, (by with_reducible repeat (first | exact ex_refl _ | exact ex_more9 | apply ex_alloc | apply ex_plus | apply ex_drew | apply ex_drewN))⟩
  · go_enter Tryz.func12, Tryz.ntmps12
    go_wp2_with (first | (go_at_call 27; refine (plus_post (her.it ▸ ncheck_calls _ _ _ _ _ _ x.gr s.g _ (hG.ex (by with_reducible repeat (first | exact ex_refl _ | exact ex_more9 | apply ex_alloc | apply ex_plus | apply ex_drew | apply ex_drewN))))).mono ?_; rintro e w' ⟨rfl, nx, rfl⟩) | (go_at_call 28; refine (nodes_is (hA.ex (by with_reducible repeat (first | exact ex_refl _ | exact ex_more9 | apply ex_alloc | apply ex_plus | apply ex_drew | apply ex_drewN))) hgg.it hb2.it).mono ?_; rintro e w' ⟨rfl, nx, rfl⟩) | (go_at_call 29; refine (meshes_calls _ _ _ x.mh x.ph s.ms _ (ml.ex (by with_reducible repeat (first | exact ex_refl _ | exact ex_more9 | apply ex_alloc | apply ex_plus | apply ex_drew | apply ex_drewN))) (ms.ex (by with_reducible repeat (first | exact ex_refl _ | exact ex_more9 | apply ex_alloc | apply ex_plus | apply ex_drew | apply ex_drewN))) n2 hb3.it).mono ?_; rintro e w' ⟨rfl, nx, rfl⟩) | (go_at_call 30; refine (tchecks_is hcx2.it (tl.ex (by with_reducible repeat (first | exact ex_refl _ | exact ex_more9 | apply ex_alloc | apply ex_plus | apply ex_drew | apply ex_drewN))) n3).mono ?_; rintro e w' ⟨rfl, nx, rfl⟩) | (go_at_call 31; refine (lroot_calls _ _ _ _ _ _ _ _ _ _ _ _ _ _ _ _ _ _ _ s.g.sl _ (gs.ex (by with_reducible repeat (first | exact ex_refl _ | exact ex_more9 | apply ex_alloc | apply ex_plus | apply ex_drew | apply ex_drewN))) g1 hga.it hb5.it).mono ?_; rintro e w' ⟨rfl, nx, rfl⟩))
    go_ret
    exact ⟨rfl, (by with_reducible repeat (first | exact ex_refl _ | exact ex_more9 | apply ex_alloc | apply ex_plus | apply ex_drew | apply ex_drewN))⟩

end

end Go.Proofs.YtcekcihijdipoaaGreat
