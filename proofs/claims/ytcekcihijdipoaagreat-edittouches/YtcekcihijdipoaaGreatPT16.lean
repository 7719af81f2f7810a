/- A pack of texts: EdCk1, Nodes6, Nodes7, NodesS, Nodes8, Nodes9, Arena9. -/
import Derived.Deep.DeepCutAuto
import Derived.Test.YtcekcihijdipoaaGreatPT15
import Derived.Test.YtcekcihijdipoaaGreatPT10
import Derived.Test.YtcekcihijdipoaaGreatPT11
import Derived.Test.YtcekcihijdipoaaGreatPT4
namespace Go.Proofs.YtcekcihijdipoaaGreat

section


open Go.RowKit Go.ChangeShapes Go.WideShapes Go.ChangeAt

set_option linter.unusedSimpArgs false

set_option linter.unusedVariables false

attribute [local go_sem] plus_size plus_drew dn_set dn_alloc dn_plus plus_dn cell_plus frozen_plus set_plus cell_alloc frozen_alloc set_alloc

set_option maxRecDepth 100000 in
theorem kidsFit_calls (h : NH) (ao : Option Addr) (n cap : Nat) {b : Bool} (hb : (!decide (h.f.kind = 5) || decide (n = 0)) = b) (w : World) : Calls Tryz.prog 120 #[vN h, .slice ao n cap] w fun e w' => e = .returned (.bool b) ∧ ∃ y, w' = plus w y := by
  subst hb
  show Calls Tryz.prog 120 #[.agg (fN h).toArray, .slice ao n cap] w fun e w' => e = .returned (.bool (!decide (h.f.kind = 5) || decide (n = 0))) ∧ ∃ y, w' = plus w y
  have hkind := kind_at h
  obtain ⟨kd, hk⟩ : ∃ k, h.f.kind = k := ⟨_, rfl⟩
  rw [hk] at hkind ⊢
  obtain ⟨cs, hcs⟩ : ∃ cs, fN h = cs := ⟨_, rfl⟩
  rw [hcs] at hkind ⊢
  clear hcs hk
  by_cases h5 : kd = 5
  · subst h5
    by_cases h0 : n = 0
    · subst h0
      go_enter Tryz.func120, Tryz.ntmps120
      go_upto_region 1 with fail
      refine name_w (fun w' => (∃ y, w' = plus w y) ∧ w'.heap[w.heap.size]? = some (.cells cs.toArray 56)) ⟨sk9, blk_new2 _ _⟩ ?_
      rintro w1 ⟨x1, k1⟩
      have p0 := cell_of k1 hkind
      go_wp2
      go_ret
      exact ⟨rfl, ex_trans x1 sk9⟩
    · have d0 : ((n : Int) == 0) = false := by rw [beq_eq_false_iff_ne]; omega
      go_enter Tryz.func120, Tryz.ntmps120
      go_upto_region 1 with fail
      refine name_w (fun w' => (∃ y, w' = plus w y) ∧ w'.heap[w.heap.size]? = some (.cells cs.toArray 56)) ⟨sk9, blk_new2 _ _⟩ ?_
      rintro w1 ⟨x1, k1⟩
      have p0 := cell_of k1 hkind
      go_wp2
      go_ret
      exact ⟨by simp [h0], ex_trans x1 sk9⟩
  · have d5 : (kd == 5) = false := by rw [beq_eq_false_iff_ne]; exact h5
    go_enter Tryz.func120, Tryz.ntmps120
    go_upto_region 1 with fail
    refine name_w (fun w' => (∃ y, w' = plus w y) ∧ w'.heap[w.heap.size]? = some (.cells cs.toArray 56)) ⟨sk9, blk_new2 _ _⟩ ?_
    rintro w1 ⟨x1, k1⟩
    have p0 := cell_of k1 hkind
    go_wp2
    go_ret
    exact ⟨by simp [h5], ex_trans x1 sk9⟩

def fits (s : Sc) (k : Nat) (n : Nd) : Bool := if (nth dSl s.g.sl k).live then mayNd s.ms.length s.ts.length n && (!decide (n.f.kind = 5) || decide ((nth [] s.g.ks k).length = 0)) else sameNd n nd0

theorem fits_node {s : Sc} {k : Nat} : nodeOk s k = fits s k (nth nd0 s.ns k) := by
  unfold fits nodeOk leafKids
  cases hv : (nth dSl s.g.sl k).live
  · cases hs : sameNd (nth nd0 s.ns k) nd0
    · rfl
    · rw [sameNd_eq hs]
      rfl
  · cases mayNd s.ms.length s.ts.length (nth nd0 s.ns k)
    · rfl
    · by_cases h5 : (nth nd0 s.ns k).f.kind = 5 <;> by_cases h0 : (nth [] s.g.ks k).length = 0 <;> simp [h5, h0] <;> omega

set_option maxRecDepth 100000 in
set_option maxHeartbeats 4000000 in
theorem fits_calls (gs go ks ko : Nat) (na ma ta : Option Addr) (gn gc kn kc nn nc mn mc tn tc : Nat) (r0 r1 : Int) (k : Nat) (h : NH) (n : Nd) (lv : Bool) (ra : Option Addr) (rn rc : Nat) {v : Bool} (w : World) (hN : NodeAt w h n) (s1 : h.n ≤ 10000)
    (kv : w.cell? ⟨gs, go + k * 2 + 1, none⟩ = some (.bool lv)) (kr : w.cell? ⟨ks, ko + k, none⟩ = some (.slice ra rn rc)) (hk : k < gn) (hk2 : k < kn) (hv : (if lv then mayNd mn tn n && (!decide (n.f.kind = 5) || decide (rn = 0)) else sameNd n nd0) = v) :
    Calls Tryz.prog 74 #[.agg #[.slice (some ⟨gs, go, none⟩) gn gc, .slice (some ⟨ks, ko, none⟩) kn kc, .slice na nn nc, .slice ma mn mc, .slice ta tn tc, .int .i64 r0, .int .i64 r1], .int .i64 k, vN h] w fun e w' => e = .returned (.bool v) ∧ ∃ y, w' = plus w y := by
  show Calls Tryz.prog 74 #[.agg #[.slice (some ⟨gs, go, none⟩) gn gc, .slice (some ⟨ks, ko, none⟩) kn kc, .slice na nn nc, .slice ma mn mc, .slice ta tn tc, .int .i64 r0, .int .i64 r1], .int .i64 k, .agg (fN h).toArray] w fun e w' => e = .returned (.bool v) ∧ ∃ y, w' = plus w y
  have ik : (k : Int) < (gn : Int) := by omega
  have ik2 : (k : Int) < (kn : Int) := by omega
  have hkd : n.f.kind = h.f.kind := by rw [hN.f]
  rw [hkd] at hv
  obtain ⟨bm, hbm⟩ : ∃ b, mayNd mn tn n = b := ⟨_, rfl⟩
  obtain ⟨bf, hbf⟩ : ∃ b, (!decide (h.f.kind = 5) || decide (rn = 0)) = b := ⟨_, rfl⟩
  rw [hbm, hbf] at hv
  replace hv := Hush9.mk hv
  have kB := build_node
  obtain ⟨b, hb⟩ : ∃ b, w.heap.size = b := ⟨_, rfl⟩
  go_enter Tryz.func74, Tryz.ntmps74
  go_upto_region 1 with fail
  refine name_w (fun w' => (∃ y, w' = plus w y) ∧ w'.heap[b]? = some (.cells #[.slice (some ⟨gs, go, none⟩) gn gc, .slice (some ⟨ks, ko, none⟩) kn kc, .slice na nn nc, .slice ma mn mc, .slice ta tn tc, .int .i64 r0, .int .i64 r1] 34) ∧ w'.heap[b + 1]? = some (.cells (fN h).toArray 56)) ⟨sk9, hb ▸ blk_old (blk_new2 _ _), by rw [← hb, ← size_alloc w]; exact blk_new2 _ _⟩ ?_
  try simp only [hb]
  rintro w1 ⟨x1, k0, k1⟩
  have c0 := cell_blk (i := 0) k0 rfl
  have c1 := cell_blk (i := 1) k0 rfl
  have c2 := cell_blk (i := 2) k0 rfl
  have c3 := cell_blk (i := 3) k0 rfl
  have c4 := cell_blk (i := 4) k0 rfl
  have c5 := cell_blk (i := 5) k0 rfl
  have c6 := cell_blk (i := 6) k0 rfl
  have qv := cell_ex x1 kv
  have qr := cell_ex x1 kr
  have hNa := hN.ex x1
  have l1 := blk_lt k1
  have l2 := cell_lt qv
  have l3 := cell_lt qr
  cases lv
  · go_wp2_with (first | (refine wpList_load_row rfl 56 _ rfl (b + 1) rfl _ _ _ _ k1 Tryz.underlying56 rfl (by kernel_rfl) ?_) | (refine wpList_build_is rfl 56 _ rfl (fN nh0) ?hf ?_; case hf => (simp only [List.map_toArray, List.map_cons, List.map_nil]; kernel_rfl)) | (go_at_call 48; refine (lsameNd_at (h2 := nh0) (hNa.ex sk9) (nd0_at _) s1 (by decide) hv.it).mono ?_; rintro e w' ⟨rfl, nx, rfl⟩))
    go_ret
    exact ⟨rfl, ex_trans x1 sk9⟩
  cases bm
  · obtain rfl : false = v := hv.it
    go_upto_region 3 with fail
    refine region_plus (by kernel_rfl) (by kernel_rfl) ?_
    (repeat (first | go_big_quiet_skip | (refine wpQuiet_load_guarded 56 _ rfl (b + 1) 0 rfl (fN h) _ (fun w' hw j v hj => cell_ex (by first | exact hw | exact ex_trans sk9 hw) (by rw [Nat.zero_add]; exact cell_of k1 hj)) Tryz.underlying56 rfl (by kernel_rfl) (by kernel_rfl) ?_; simp only [Act.put, List.setIfInBounds_toArray, List.set_cons_succ, List.set_cons_zero]) | go_big_quiet_step (first | (go_at_call 17; exact q9_of (lcheckNd_is (hNa.ex sk9) s1 hbm)) | (go_at_call 120; exact q9_of (kidsFit_calls h _ _ _ hbf _)))))
    refine wpQuiet_nil ?_
    rintro _ ⟨x2, rfl⟩
    go_wp2
    go_ret
    exact ⟨rfl, ex_trans x1 sk9⟩
  · obtain rfl : bf = v := hv.it
    go_upto_region 3 with fail
    refine region_plus (by kernel_rfl) (by kernel_rfl) ?_
    (repeat (first | go_big_quiet_skip | (refine wpQuiet_load_guarded 56 _ rfl (b + 1) 0 rfl (fN h) _ (fun w' hw j v hj => cell_ex (by first | exact hw | exact ex_trans sk9 hw) (by rw [Nat.zero_add]; exact cell_of k1 hj)) Tryz.underlying56 rfl (by kernel_rfl) (by kernel_rfl) ?_; simp only [Act.put, List.setIfInBounds_toArray, List.set_cons_succ, List.set_cons_zero]) | go_big_quiet_step (first | (go_at_call 17; exact q9_of (lcheckNd_is (hNa.ex sk9) s1 hbm)) | (go_at_call 120; exact q9_of (kidsFit_calls h _ _ _ hbf _)))))
    refine wpQuiet_nil ?_
    rintro _ ⟨x2, rfl⟩
    go_wp2
    go_ret
    exact ⟨rfl, ex_trans x1 sk9⟩

set_option maxHeartbeats 2000000 in
theorem lroot_calls (ga ka na ma ta : Option Addr) (gn gc kn kc nn nc mn mc tn tc : Nat) (r0 r1 : Int) (a0 a1 : Int) (l : List Sl) (w : World) (hl : Lay fS w ga gn l) (hn : gn ≤ 1000) (hok : arOk l = true) {v : Bool} (hv : (decide ((a0, a1) = ((0, 0) : Int × Int)) || heldIn l a0 a1) = v) :
    Calls Tryz.prog 31 #[.agg #[.slice ga gn gc, .slice ka kn kc, .slice na nn nc, .slice ma mn mc, .slice ta tn tc, .int .i64 r0, .int .i64 r1], .agg #[.int .i64 a0, .int .i64 a1]] w fun e w' => e = .returned (.bool v) ∧ ∃ y, w' = plus w y := by
  obtain ⟨br, hbr⟩ : ∃ b, eqh a0 a1 0 0 = b := ⟨_, rfl⟩
  have qH := eqH_is hbr
  have hroot : decide ((a0, a1) = ((0, 0) : Int × Int)) = br := by
    rw [← hbr]
    by_cases e0 : a0 = 0 <;> by_cases e1 : a1 = 0 <;> simp [eqh, e0, e1]
  rw [hroot] at hv
  clear hroot hbr
  obtain ⟨bh, hbh⟩ : ∃ b, heldIn l a0 a1 = b := ⟨_, rfl⟩
  have hho : holds l a0 a1 = bh := by rw [holds, hok, hbh]; rfl
  rw [hbh] at hv
  replace hv := Hush9.mk hv
  replace hho := Hush9.mk hho
  cases br
  · obtain rfl : bh = v := hv.it
    go_enter Tryz.func31, Tryz.ntmps31
    go_wp2_with (go_at_call 79; refine (plus_post (hho.it ▸ lholds_calls _ _ _ l _ _ _ (hl.ex sk9) (by omega))).mono ?_; rintro e w' ⟨rfl, nx, rfl⟩)
    go_ret
    exact ⟨rfl, sk9⟩
  · obtain rfl : true = v := hv.it
    go_enter Tryz.func31, Tryz.ntmps31
    go_wp2_with fail
    go_ret
    exact ⟨rfl, sk9⟩

end

section


open Go.RowKit Go.ChangeShapes Go.WideShapes Go.ChangeAt

set_option linter.unusedSimpArgs false

set_option linter.unusedVariables false

attribute [local go_sem] plus_size plus_drew dn_set dn_alloc dn_plus plus_dn cell_plus frozen_plus set_plus cell_alloc frozen_alloc set_alloc

def kidsL (g : Gr) (h : Int × Int) : List (Int × Int) := if askErr g h h = 0 then rowAt g h else []

def parentsL (g : Gr) (h : Int × Int) : List (Int × Int) := if askErr g h h = 0 then parentsTo g h g.ks.length else []

def reachR (g : Gr) (a b : Int × Int) : Bool := if askErr g a b = 0 then reachB g a b else false

theorem ask_ok {g : Gr} {a b : Int × Int} (h : askErr g a b = 0) : grOk g = true ∧ heldIn g.sl a.1 a.2 = true ∧ heldIn g.sl b.1 b.2 = true := by
  unfold askErr at h
  split at h
  · rename_i hg
    split at h
    · rename_i hh; exact ⟨hg, hh.1, hh.2⟩
    · cases h
  · cases h

theorem ask_err (g : Gr) (a b : Int × Int) : askErr g a b = 0 ∨ askErr g a b = 8 ∨ askErr g a b = 50 := by
  unfold askErr
  split
  · split
    · exact .inl rfl
    · exact .inr (.inr rfl)
  · exact .inr (.inl rfl)

end

section


open Go.RowKit Go.ChangeShapes Go.WideShapes Go.ChangeAt

set_option linter.unusedSimpArgs false

set_option linter.unusedVariables false

attribute [local go_sem] plus_size plus_drew dn_set dn_alloc dn_plus plus_dn cell_plus frozen_plus set_plus cell_alloc frozen_alloc set_alloc

def parentsIn (gr : Gr) (h : Int × Int) (i k : Nat) : List (Int × Int) := parentsTo gr h i ++ (((nth [] gr.ks i).take k).filter fun x => decide (x = h)).map fun _ => ((i : Int), (nth dSl gr.sl i).gen)

end

section


open Go.RowKit Go.ChangeShapes Go.WideShapes Go.ChangeAt

set_option linter.unusedSimpArgs false

set_option linter.unusedVariables false

attribute [local go_sem] plus_size plus_drew dn_set dn_alloc dn_plus plus_dn cell_plus frozen_plus set_plus cell_alloc frozen_alloc set_alloc

def Sh (T : World) (e : TypeId) (c : Nat) (w : World) (ao : Option Addr) (n : Nat) : Prop := n = 0 ∨ ∃ g cur, ao = some ⟨g, 0, none⟩ ∧ T.heap.size ≤ g ∧ w.heap[g]? = some (.cells cur e) ∧ n * c ≤ cur.size

structure Sp (T w w' : World) : Prop where
  os : w'.os = w.os
  tape : w'.tape = w.tape
  output : w'.output = w.output
  size : w.heap.size ≤ w'.heap.size
  blk : ∀ k, k < w.heap.size → w'.heap[k]? = w.heap[k]? ∨ (T.heap.size ≤ k ∧ ∃ c c' e, w.heap[k]? = some (.cells c e) ∧ w'.heap[k]? = some (.cells c' e) ∧ c'.size = c.size ∧ (e = 86 ∨ e = 32))

section

variable {T w w1 w2 : World}

end

structure ShG (T w : World) (ao : Option Addr) (n : Nat) (ko : Option Addr) (kn kcap : Nat) (hs : List RH) : Prop where
  s : Sh T 86 2 w ao n
  kh : Own 88 1 fR T w ko kn kcap hs
  r : ∀ k, k < kn → Sh T 32 2 w (nth dRH hs k).ao (nth dRH hs k).n
  n1 : n ≤ 10000
  n2 : kn ≤ 10000
  n3 : ∀ k, k < kn → (nth dRH hs k).n ≤ 10000

end

section


open Go.RowKit Go.ChangeShapes Go.WideShapes Go.ChangeAt

set_option linter.unusedSimpArgs false

set_option linter.unusedVariables false

attribute [local go_sem] plus_size plus_drew dn_set dn_alloc dn_plus plus_dn cell_plus frozen_plus set_plus cell_alloc frozen_alloc set_alloc

theorem Lay.take {α : Type} {f : α → List Value} {w : World} {ao : Option Addr} {n k c : Nat} {l : List α} (h : Lay f w ao n l) (hc : ∀ x, (f x).length = c) (hk : k ≤ n) : Lay f w ao k (l.take k) := by
  refine ⟨by rw [List.length_take, h.len]; omega, ?_⟩
  by_cases h0 : k = 0
  · exact .inl h0
  · obtain ⟨g, off, e, hg, hcell⟩ := h.some (by omega)
    refine .inr ⟨g, off, e, hg, fun j u hu => hcell j u ?_⟩
    have hl : l.flatMap f = (l.take k).flatMap f ++ (l.drop k).flatMap f := by rw [← List.flatMap_append, List.take_append_drop]
    rw [hl, List.getElem?_append_left (List.getElem?_eq_some_iff.1 hu).1]
    exact hu

theorem Lay.drop {α : Type} {f : α → List Value} {w : World} {g off n k c : Nat} {l : List α} (h : Lay f w (Option.some ⟨g, off, none⟩) n l) (hc : ∀ x, (f x).length = c) (hk : k ≤ n) : Lay f w (Option.some ⟨g, off + k * c, none⟩) (n - k) (l.drop k) := by
  refine ⟨by rw [List.length_drop, h.len], ?_⟩
  by_cases h0 : n - k = 0
  · exact .inl h0
  · obtain ⟨_, _, e, hg, hcell⟩ := h.some (by omega)
    cases e
    refine .inr ⟨g, off + k * c, rfl, hg, fun j u hu => ?_⟩
    rw [Nat.add_assoc]
    refine hcell (k * c + j) u ?_
    have hl : l.flatMap f = (l.take k).flatMap f ++ (l.drop k).flatMap f := by rw [← List.flatMap_append, List.take_append_drop]
    have hlen : ((l.take k).flatMap f).length = k * c := by rw [flat_length hc, List.length_take, h.len, Nat.min_eq_left hk]
    rw [hl, List.getElem?_append_right (by omega), hlen, Nat.add_sub_cancel_left]
    exact hu

theorem GrOwn.setRow {T w : World} {ao : Option Addr} {n cap kb kn kcap : Nat} {hs : List RH} {g : Gr} {k : Nat} {r : RH} {l : List (Int × Int)} (h : GrOwn T w ao n cap (some ⟨kb, 0, none⟩) kn kcap hs g) (hk : k < kn) (o : Own 32 2 f2 T w r.ao r.n r.cap l) :
    GrOwn T (w.setCell ⟨kb, k, none⟩ (.slice r.ao r.n r.cap)) ao n cap (some ⟨kb, 0, none⟩) kn kcap (hs.set k r) ⟨g.sl, g.ks.set k l⟩ := by
  obtain ⟨_, cur, e0, _, hb, _⟩ := h.kh.blk (by omega)
  cases e0
  have hs1 := h.kh.set_self (u := .slice r.ao r.n r.cap) k 0 r dRH hk fR_c (by decide) rfl
  rw [Nat.mul_one, Nat.add_zero] at hs1
  have hl := h.kh.1
  have hkl := h.kl
  refine ⟨h.sl.set_other hb (by decide), hs1, by show (hs.set k r).length = (g.ks.set k l).length; rw [List.length_set, List.length_set]; exact h.len, fun j hj => ?_⟩
  rw [List.length_set] at hj
  show Own 32 2 f2 T _ _ _ _ (nth [] (g.ks.set k l) j)
  rw [nth_set' (by omega), nth_set' (by omega)]
  by_cases e : j = k
  · rw [if_pos e, if_pos e]
    exact o.set_other hb (by decide)
  · rw [if_neg e, if_neg e]
    exact (h.row j hj).set_other hb (by decide)

def zeroG : Gr := ⟨[], []⟩

def RetG (w : World) (g : Gr) (er : Int) (e : Ending) (w' : World) : Prop := ∃ ao' cap' ko' kcap' hs', e = .returned (.tuple #[.agg #[.slice ao' g.sl.length cap', .slice ko' g.ks.length kcap'], .int .i64 er]) ∧ (∃ y, w' = plus w y) ∧ GrOwn w w' ao' g.sl.length cap' ko' g.ks.length kcap' hs' g

theorem own_zero {T w : World} : GrOwn T w none 0 0 none 0 0 [] zeroG := ⟨own_nil, own_nil, rfl, fun k hk => by simp at hk⟩

def unlinkRes (g : Gr) (p : Int × Int) (k : Int) : Gr := if unlinkErr g p k = 0 then unlinkG g p k else zeroG

end

section


open Go.RowKit Go.ChangeShapes Go.WideShapes Go.ChangeAt

set_option linter.unusedSimpArgs false

set_option linter.unusedVariables false

attribute [local go_sem] plus_size plus_drew dn_set dn_alloc dn_plus plus_dn cell_plus frozen_plus set_plus cell_alloc frozen_alloc set_alloc

def makeRes (g : Gr) : Gr := if makeGErr g = 0 then makeG g else zeroG

def makeS (g : Gr) : Int := if makeGErr g = 0 then mkSlot g.sl else 0

def makeH (g : Gr) : Int := if makeGErr g = 0 then mkGen g.sl else 0

def RetGM (w : World) (g : Gr) (s h er : Int) (e : Ending) (w' : World) : Prop := ∃ ao' cap' ko' kcap' hs', e = .returned (.tuple #[.agg #[.slice ao' g.sl.length cap', .slice ko' g.ks.length kcap'], .agg #[.int .i64 s, .int .i64 h], .int .i64 er]) ∧ (∃ y, w' = plus w y) ∧ GrOwn w w' ao' g.sl.length cap' ko' g.ks.length kcap' hs' g

theorem blk_eq {w w' : World} {g : Nat} {o : Obj} (e : w' = w) (h : w.heap[g]? = some o) : w'.heap[g]? = some o := e ▸ h

theorem two_set12 {b1 b2 : Nat} {o1 o2 : Obj} {w : World} {i j : Nat} {u v : Value} (hne : b1 ≠ b2) (h : ((w.setCell ⟨b1, i, none⟩ u).setCell ⟨b1, j, none⟩ v).heap[b1]? = some o1) : Two b1 o1 b2 o2 w ((w.setCell ⟨b1, i, none⟩ u).setCell ⟨b1, j, none⟩ v) :=
  ⟨rfl, rfl, rfl, by rw [size_set, size_set]; exact Nat.le_refl _, fun k _ n1 _ => (blk_set_ne (fun e => n1 e.symm)).trans (blk_set_ne (fun e => n1 e.symm)), .inr h, .inl ((blk_set_ne hne).trans (blk_set_ne hne))⟩

theorem Own.two_same {α : Type} {f : α → List Value} {b1 b2 : Nat} {o1 o2 : Obj} {w w1 T : World} {ao : Option Addr} {n cap c : Nat} {l : List α} {e e1 : TypeId} {c1 : Array Value} (h : Own e c f T w ao n cap l) (ht : Two b1 o1 b2 o2 w w1) (h1 : w.heap[b1]? = some (.cells c1 e1)) (n1 : e1 ≠ e) (hb : b2 < T.heap.size) : Own e c f T w1 ao n cap l := by
  refine ⟨h.1, h.2.1, h.2.2.imp id ?_⟩
  rintro ⟨q, cp, cu, a1, a2, a3, a4⟩
  refine ⟨q, cp, cu, a1, a2, ?_, a4⟩
  rw [ht.rest q (blk_lt a3) ?_ (by omega)]
  · exact a3
  · intro e0
    rw [e0, h1] at a3
    cases a3
    exact n1 rfl

def g10S (i : Nat) : List Nat := match i with | 0 => [42] | 1 => [43] | 4 => [4] | _ => []

def g10Φ (xv hv : Value) (b1 : Nat) (o1 : Obj) (b2 : Nat) (o2 : Obj) (i : Nat) (t : Nat → Value) (w' : World) : Prop := match i with
  | 0 => t 42 = xv
  | 1 => t 43 = hv
  | 2 => w'.heap[b1]? = some o1
  | 3 => w'.heap[b2]? = some o2
  | 4 => t 4 = .int .i64 0
  | _ => True

end

section


open Go.RowKit Go.ChangeShapes Go.WideShapes Go.ChangeAt

set_option linter.unusedSimpArgs false

set_option linter.unusedVariables false

attribute [local go_sem] plus_size plus_drew dn_set dn_alloc dn_plus plus_dn cell_plus frozen_plus set_plus cell_alloc frozen_alloc set_alloc

def l12S (i : Nat) : List Nat := match i with | 0 => [55] | 1 => [56] | 4 => [4] | _ => []

def l12Φ (g1 m c1 k : Nat) (gn : Int) (b1 : Nat) (o1 : Obj) (b2 : Nat) (o2 : Obj) (i : Nat) (t : Nat → Value) (w' : World) : Prop := match i with
  | 0 => t 55 = .agg #[.slice (some ⟨g1, 0, none⟩) m c1]
  | 1 => t 56 = .agg #[.int .i64 k, .int .i64 gn]
  | 2 => w'.heap[b1]? = some o1
  | 3 => w'.heap[b2]? = some o2
  | 4 => t 4 = .int .i64 0
  | _ => True

theorem l12Φ_mono (g1 m c1 k : Nat) (gn : Int) (b1 : Nat) (o1 : Obj) (b2 : Nat) (o2 : Obj) : ∀ i t t' w w', l12Φ g1 m c1 k gn b1 o1 b2 o2 i t w → (∀ s ∈ l12S i, t' s = t s) → Two b1 o1 b2 o2 w w' → l12Φ g1 m c1 k gn b1 o1 b2 o2 i t' w' := by
  intro i t t' w w' h hs' ht
  match i with
  | 0 => exact (hs' 55 (by decide)).trans h
  | 1 => exact (hs' 56 (by decide)).trans h
  | 2 => exact (two_one ht h).elim id id
  | 3 => exact (two_two ht h).elim id id
  | 4 => exact (hs' 4 (by decide)).trans h
  | i + 5 => trivial

set_option maxRecDepth 100000 in
set_option maxHeartbeats 4000000 in
theorem lmake_calls (ao : Option Addr) (n cap : Nat) (l : List Sl) (w : World) (hl : Lay fS w ao n l) (hn : n ≤ 1000) :
    Calls Tryz.prog 161 #[.agg #[.slice ao n cap]] w fun e w' => RetM w (mkRes l) (mkS l) (mkG l) (mkErr l) e w' := by
  have hlen := hl.len
  have hmf : ∀ (fn : Fn) (first cap : Array Value) (w : World), (Instr.makeFunc fn first cap).run Tryz.prog w = .ok (.func fn first cap) w := fun _ _ _ _ => rfl
  cases ho : arOk l
  · have hC : allErr l = 8 := by rw [allErr, ho]; rfl
    have he : mkErr l = 8 := by rw [mkErr, ho]; rfl
    rw [mkS, mkG, mkRes, he]
    go_enter Tryz.func161, Tryz.ntmps161
    go_wp2_with (go_at_call 128; refine (plus_post (lcheck_calls _ _ _ l _ (hl.ex sk0) (by omega))).mono ?_; rintro e w' ⟨rfl, nx, rfl⟩; rw [hC])
    exact bodyPost_ret (v := .tuple #[.agg #[.slice none 0 0], .agg #[.int .i64 0, .int .i64 0], .int .i64 8]) (by simp [results, Tryz.results161, go_sem, ↓IntWalk.iteOmega]) rfl ⟨none, 0, rfl, sk0, own_nil⟩
  have hC : allErr l = 0 := by rw [allErr, ho]; rfl
  have h128 := arOk_len ho
  have hfl := freeAt_le l
  obtain ⟨k, hfa⟩ : ∃ k, freeAt l = k := ⟨_, rfl⟩
  by_cases hkl : k < n
  · have he : mkErr l = 0 := by rw [mkErr, if_pos ho, if_pos (by omega)]
    have hml : mkList l = l.set k ⟨(nth dSl l k).gen + 1, true⟩ := by rw [mkList, if_pos (by omega), hfa]
    have hmg : mkGen l = (nth dSl l k).gen + 1 := by rw [mkGen, if_pos (by omega), hfa]
    have hmS : mkSlot l = k := by rw [mkSlot, hfa]
    have hge := arOk_at ho (k := k) (by omega)
    have i1 : ¬ (k : Int) = 128 := by omega
    have d1 : ((k : Int) == 128) = false := by rw [beq_eq_false_iff_ne]; exact i1
    have i2 : ¬ (k : Int) = (n : Int) := by omega
    have d2 : ((k : Int) == (n : Int)) = false := by rw [beq_eq_false_iff_ne]; exact i2
    have iwg : IntKind.i64.wrap ((nth dSl l k).gen + 1) = (nth dSl l k).gen + 1 := wrap_le (by omega)
    go_enter Tryz.func161, Tryz.ntmps161
    go_upto_region 10 with (first | (go_at_call 128; refine (plus_post (lcheck_calls _ _ _ l _ (hl.ex sk0) (by omega))).mono ?_; rintro e w' ⟨rfl, nx, rfl⟩; rw [hC]) | (go_at_call 177; refine (plus_post (lfirst_calls _ _ _ l _ (hl.ex sk0) (by omega))).mono ?_; rintro e w' ⟨rfl, nf, rfl⟩; rw [hfa]) | (go_at_call 81; refine (ltwin_calls _ _ _ l _ (hl.ex sk0) (by omega)).mono ?_; rintro e w1 ⟨a1, c1, rfl, hw1, o1⟩; have hr1 : w1.heap[w.heap.size + 1]? = some (.cells #[.slice none 0 0] 24) := blk_ex (w := (w.alloc (.cells #[.slice ao n cap] 24)).alloc (.cells #[.slice none 0 0] 24)) sn0 (by rw [blk_alloc, if_pos (by simp [go_sem])]); have hr2 : w1.heap[w.heap.size + 1 + 1]? = some (.cells #[.int .i64 0, .int .i64 0] 32) := blk_ex (w := ((w.alloc (.cells #[.slice ao n cap] 24)).alloc (.cells #[.slice none 0 0] 24)).alloc (.cells #[.int .i64 0, .int .i64 0] 32)) sn0 (by rw [blk_alloc, if_pos (by simp [go_sem])]); have hrl := blk_lt hr2))
    obtain ⟨g1, cur0, rfl, _, _, _⟩ := o1.blk (by omega)
    have hq : (w1.alloc (.cells #[.slice (some ⟨g1, 0, none⟩) n c1] 24)).heap[w1.heap.size]? = some (.cells #[.slice (some ⟨g1, 0, none⟩) n c1] 24) := by rw [blk_alloc, if_pos rfl]
    have hr1' := blk_ex (ex_alloc (o := (.cells #[.slice (some ⟨g1, 0, none⟩) n c1] 24)) (ex_refl w1)) hr1
    have hr2' := blk_ex (ex_alloc (o := (.cells #[.slice (some ⟨g1, 0, none⟩) n c1] 24)) (ex_refl w1)) hr2
    have o2 := (o1.ex (ex_alloc (o := (.cells #[.slice (some ⟨g1, 0, none⟩) n c1] 24)) (ex_refl w1))).base (T' := w) (by simp [go_sem]; omega)
    have hx2 : ∃ y, w1.alloc (.cells #[.slice (some ⟨g1, 0, none⟩) n c1] 24) = plus w y := sn0
    clear hr1 hr2 o1
    generalize w1.alloc (.cells #[.slice (some ⟨g1, 0, none⟩) n c1] 24) = w2 at *
    have hKM : k < n := hkl
    have iK : (k : Int) < ((n : Nat) : Int) := by omega
    obtain ⟨_, cur, eqa, hgw, hb1, _⟩ := o2.blk (by omega)
    cases eqa
    obtain ⟨_, _, eqa, hlt1, hc1⟩ := o2.lay.some (by omega)
    cases eqa
    obtain ⟨x0, x1⟩ := cellS o2.1 hc1 (k := k) hKM
    rw [Nat.zero_add] at x0 x1
    have y0 := cell_blk (i := 0) hq rfl
    have z0 := frozen_blk (i := k * 2) hb1
    have z1 := frozen_blk (i := k * 2 + 1) hb1
    have hlq := blk_lt hq
    have n1 : g1 ≠ w.heap.size + 1 := by
      intro e0
      rw [e0, hr1'] at hb1
      cases hb1
    have n2 : g1 ≠ w.heap.size + 1 + 1 := by
      intro e0
      rw [e0, hr2'] at hb1
      cases hb1
    have nq : g1 ≠ w1.heap.size := by
      intro e0
      rw [e0, hq] at hb1
      cases hb1
    go_wp2
    refine region_tail 6 (by kernel_rfl) (by kernel_rfl) ?_
    simp only [List.take_succ_cons, List.take_zero, List.drop_succ_cons, List.drop_zero]
    (repeat (go_big_quiet_step ((go_at_call 168; exact plus_of (lslotOf_calls _ _ _)))))
    refine wpQuiet_nil ?_
    rintro _ ⟨x2, rfl⟩
    go_wp2
    have o3 := (o2.set_self (u := .int .i64 (((nth dSl l k).gen + 1))) k 0 ⟨((nth dSl l k).gen + 1), (nth dSl l k).live⟩ dSl hKM fS_c (by decide) rfl).set_self (u := .bool true) k 1 ⟨((nth dSl l k).gen + 1), true⟩ dSl hKM fS_c (by decide) (by rw [nth_set' (by rw [o2.1]; exact hKM), if_pos rfl]; rfl)
    rw [List.set_set, Nat.add_zero] at o3
    have r1 : ((w2.setCell ⟨g1, k * 2, none⟩ (.int .i64 ((nth dSl l k).gen + 1))).setCell ⟨g1, k * 2 + 1, none⟩ (.bool true)).heap[w.heap.size + 1]? = _ := (blk_set_ne n1).trans ((blk_set_ne n1).trans hr1')
    have r2 : ((w2.setCell ⟨g1, k * 2, none⟩ (.int .i64 ((nth dSl l k).gen + 1))).setCell ⟨g1, k * 2 + 1, none⟩ (.bool true)).heap[w.heap.size + 1 + 1]? = _ := (blk_set_ne n2).trans ((blk_set_ne n2).trans hr2')
    have rq : ((w2.setCell ⟨g1, k * 2, none⟩ (.int .i64 ((nth dSl l k).gen + 1))).setCell ⟨g1, k * 2 + 1, none⟩ (.bool true)).heap[w1.heap.size]? = _ := (blk_set_ne nq).trans ((blk_set_ne nq).trans hq)
    have hsz2 : ((w2.setCell ⟨g1, k * 2, none⟩ (.int .i64 ((nth dSl l k).gen + 1))).setCell ⟨g1, k * 2 + 1, none⟩ (.bool true)).heap.size = w2.heap.size := by rw [size_set, size_set]
    have hx3 : ∃ y, (w2.setCell ⟨g1, k * 2, none⟩ (.int .i64 ((nth dSl l k).gen + 1))).setCell ⟨g1, k * 2 + 1, none⟩ (.bool true) = plus w y := ex_set_new (ex_set_new hx2 hgw) hgw
    clear x0 x1 y0 z0 z1 hb1 hc1 hr1' hr2' hq o2 hx2
    generalize (w2.setCell ⟨g1, k * 2, none⟩ (.int .i64 ((nth dSl l k).gen + 1))).setCell ⟨g1, k * 2 + 1, none⟩ (.bool true) = w5 at *
    have hh : (w5.alloc (.cells #[.int .i64 k, .int .i64 ((nth dSl l k).gen + 1)] 32)).heap[w2.heap.size]? = some (.cells #[.int .i64 k, .int .i64 ((nth dSl l k).gen + 1)] 32) := by rw [blk_alloc, if_pos hsz2.symm]
    have hh' := blk_ex (ex_plus (y := x2) (ex_refl _)) hh
    have r1' := blk_ex (ex_plus (y := x2) (ex_alloc (o := (.cells #[.int .i64 k, .int .i64 ((nth dSl l k).gen + 1)] 32)) (ex_refl w5))) r1
    have r2' := blk_ex (ex_plus (y := x2) (ex_alloc (o := (.cells #[.int .i64 k, .int .i64 ((nth dSl l k).gen + 1)] 32)) (ex_refl w5))) r2
    have rq' := blk_ex (ex_plus (y := x2) (ex_alloc (o := (.cells #[.int .i64 k, .int .i64 ((nth dSl l k).gen + 1)] 32)) (ex_refl w5))) rq
    have o3' := o3.ex (ex_plus (y := x2) (ex_alloc (o := (.cells #[.int .i64 k, .int .i64 ((nth dSl l k).gen + 1)] 32)) (ex_refl w5)))
    have hx3' := ex_plus (y := x2) (ex_alloc (o := (.cells #[.int .i64 k, .int .i64 ((nth dSl l k).gen + 1)] 32)) hx3)
    clear r1 r2 rq o3 hx3 hh
    generalize plus (w5.alloc (.cells #[.int .i64 k, .int .i64 ((nth dSl l k).gen + 1)] 32)) x2 = w3 at *
    have f0 := cell_blk (i := 0) rq' rfl
    have f1 := cell_blk (i := 0) hh' rfl
    have f2 := cell_blk (i := 1) hh' rfl
    have nb : w.heap.size + 1 ≠ w.heap.size + 1 + 1 := by omega
    refine region_relG 5 l12S (l12Φ g1 (n) c1 k (((nth dSl l k).gen + 1)) (w.heap.size + 1) (.cells #[.slice (some ⟨g1, 0, none⟩) n c1] 24) (w.heap.size + 1 + 1) (.cells #[.int .i64 k, .int .i64 ((nth dSl l k).gen + 1)] 32)) (Two (w.heap.size + 1) (.cells #[.slice (some ⟨g1, 0, none⟩) n c1] 24) (w.heap.size + 1 + 1) (.cells #[.int .i64 k, .int .i64 ((nth dSl l k).gen + 1)] 32)) two_trans (two_draw _) (by kernel_rfl) (by kernel_rfl) (by decide) (l12Φ_mono _ _ _ _ _ _ _ _ _) ?steps ?fin
    case steps =>
      refine ⟨?_, ?_, ?_, ?_, ?_, trivial⟩
      · intro a w' hg hfree hdeep
        have f7' := hfree 7 (by kernel_rfl)
        have e0 := two_cell hg f0 (by omega) (by omega)
        simp only [l12Φ, got] at f7'
        simp [go_sem] at f7'
        unfold Oper.wp
        simp [go_sem, execOp, Act.eval, ↓IntWalk.iteOmega, f7', e0]
        exact ⟨_, rfl, two_refl _, by simp [l12Φ, upd]⟩
      · intro a w' hg hfree hdeep
        have f8' := hfree 8 (by kernel_rfl)
        have e1 := two_cell hg f1 (by omega) (by omega)
        have e2 := two_cell hg f2 (by omega) (by omega)
        simp only [l12Φ, got] at f8'
        simp [go_sem] at f8'
        unfold Oper.wp
        simp [go_sem, execOp, Act.eval, ↓IntWalk.iteOmega, f8', e1, e2]
        exact ⟨_, rfl, two_refl _, by simp [l12Φ, upd]⟩
      · intro a w' hg hfree hdeep
        have f2' := hfree 2 (by kernel_rfl)
        have d0 := hdeep 0 (by kernel_rfl)
        simp only [l12Φ, got] at f2' d0
        simp [go_sem] at f2'
        rcases two_one hg r1' with hb | hb
        · have c0' := cell_blk (i := 0) hb rfl; have z0' := frozen_blk (i := 0) hb
          unfold Oper.wp
          simp [go_sem, execOp, Act.eval, f2', d0, c0', z0']
          exact ⟨two_set1 nb (blk_set_eq hb), undef, (blk_set_eq hb)⟩
        · have c0' := cell_blk (i := 0) hb rfl; have z0' := frozen_blk (i := 0) hb
          unfold Oper.wp
          simp [go_sem, execOp, Act.eval, f2', d0, c0', z0']
          exact ⟨two_set1 nb (blk_set_eq hb), undef, (blk_set_eq hb)⟩
      · intro a w' hg hfree hdeep
        have f3' := hfree 3 (by kernel_rfl)
        have d1 := hdeep 1 (by kernel_rfl)
        simp only [l12Φ, got] at f3' d1
        simp [go_sem] at f3'
        rcases two_two hg r2' with hb | hb
        · have c0' := cell_blk (i := 0) hb rfl; have z0' := frozen_blk (i := 0) hb; have c1' := cell_blk (i := 1) hb rfl; have z1' := frozen_blk (i := 1) hb
          unfold Oper.wp
          simp [go_sem, execOp, Act.eval, f3', d1, c0', z0', c1', z1']
          exact ⟨two_set2 nb (blk_set_eq (blk_set_eq hb)), undef, (blk_set_eq (blk_set_eq hb))⟩
        · have c0' := cell_blk (i := 0) hb rfl; have z0' := frozen_blk (i := 0) hb; have c1' := cell_blk (i := 1) hb rfl; have z1' := frozen_blk (i := 1) hb
          unfold Oper.wp
          simp [go_sem, execOp, Act.eval, f3', d1, c0', z0', c1', z1']
          exact ⟨two_set2 nb (blk_set_eq (blk_set_eq hb)), undef, (blk_set_eq (blk_set_eq hb))⟩
      · intro a w' hg hfree hdeep
        unfold Oper.wp
        simp [go_sem, execOp, Act.eval, ↓IntWalk.iteOmega]
        exact ⟨_, rfl, two_refl _, by simp [l12Φ, upd]⟩
    case fin =>
      rintro t w4 hg hΦ
      have h9 := hΦ 2 (by decide)
      have h10 := hΦ 3 (by decide)
      have h11 := hΦ 4 (by decide)
      simp only [l12Φ] at h9 h10 h11
      have o4 := o3'.two hg r1' r2' (by decide) (by decide)
      have hx4 := two_ex hg hx3' (by omega) (by omega)
      simp only [putAll, List.take_succ_cons, List.take_zero, List.take_nil, Act.put]
      simp only [List.setIfInBounds_toArray, List.set_cons_succ, List.set_cons_zero, h11]
      simp only [List.drop_succ_cons, List.drop_zero]
      clear hΦ hg o3' hx3' f0 f1 f2 r1' r2' rq' hh'
      have c0 := cell_blk (i := 0) h9 rfl
      have c1' := cell_blk (i := 0) h10 rfl
      have c2' := cell_blk (i := 1) h10 rfl
      go_wp2
      have hpost : RetM w (mkRes l) (mkS l) (mkG l) (mkErr l) (.returned (.tuple #[.agg #[.slice (some ⟨g1, 0, none⟩) n c1], .agg #[.int .i64 k, .int .i64 ((nth dSl l k).gen + 1)], .int .i64 0])) w4 := by
        rw [mkRes, mkS, mkG, if_pos he, if_pos he, if_pos he, he, hml, hmg, hmS]
        exact ⟨some ⟨g1, 0, none⟩, c1, by rw [o4.1], hx4, by rw [o4.1]; exact o4⟩
      exact bodyPost_ret (v := .tuple #[.agg #[.slice (some ⟨g1, 0, none⟩) n c1], .agg #[.int .i64 k, .int .i64 ((nth dSl l k).gen + 1)], .int .i64 0]) (by simp [results, Tryz.results161, go_sem, c0, c1', c2']) rfl hpost
  obtain rfl : k = n := by omega
  by_cases h8 : 128 ≤ k
  · have d8 : ((k : Int) == 128) = true := by rw [beq_iff_eq]; omega
    have he : mkErr l = 9 := by rw [mkErr, if_pos ho, if_neg (by omega), if_pos (by omega)]
    rw [mkS, mkG, mkRes, he]
    go_enter Tryz.func161, Tryz.ntmps161
    go_wp2_with (first | (go_at_call 128; refine (plus_post (lcheck_calls _ _ _ l _ (hl.ex sk0) (by omega))).mono ?_; rintro e w' ⟨rfl, nx, rfl⟩; rw [hC]) | (go_at_call 177; refine (plus_post (lfirst_calls _ _ _ l _ (hl.ex sk0) (by omega))).mono ?_; rintro e w' ⟨rfl, nf, rfl⟩; rw [hfa]))
    exact bodyPost_ret (v := .tuple #[.agg #[.slice none 0 0], .agg #[.int .i64 0, .int .i64 0], .int .i64 9]) (by simp [results, Tryz.results161, go_sem, ↓IntWalk.iteOmega]) rfl ⟨none, 0, rfl, sk0, own_nil⟩
  · have i8 : ¬ (k : Int) = 128 := by omega
    have d8 : ((k : Int) == 128) = false := by rw [beq_eq_false_iff_ne]; exact i8
    have he : mkErr l = 0 := by rw [mkErr, if_pos ho, if_neg (by omega), if_neg (by omega)]
    have hml : mkList l = (l ++ [dSl]).set k ⟨1, true⟩ := by rw [mkList, if_neg (by omega), List.set_append_right _ _ (by omega), hlen, Nat.sub_self]; rfl
    have hmg : mkGen l = 1 := by rw [mkGen, if_neg (by omega)]
    have hmS : mkSlot l = k := by rw [mkSlot, hfa]
    go_enter Tryz.func161, Tryz.ntmps161
    go_upto_region 10 with (first | (go_at_call 128; refine (plus_post (lcheck_calls _ _ _ l _ (hl.ex sk0) (by omega))).mono ?_; rintro e w' ⟨rfl, nx, rfl⟩; rw [hC]) | (go_at_call 177; refine (plus_post (lfirst_calls _ _ _ l _ (hl.ex sk0) (by omega))).mono ?_; rintro e w' ⟨rfl, nf, rfl⟩; rw [hfa]) | (go_at_call 81; refine (ltwin_calls _ _ _ l _ (hl.ex sk0) (by omega)).mono ?_; rintro e w1 ⟨a1, c1, rfl, hw1, o1⟩; have hr1 : w1.heap[w.heap.size + 1]? = some (.cells #[.slice none 0 0] 24) := blk_ex (w := (w.alloc (.cells #[.slice ao k cap] 24)).alloc (.cells #[.slice none 0 0] 24)) sn0 (by rw [blk_alloc, if_pos (by simp [go_sem])]); have hr2 : w1.heap[w.heap.size + 1 + 1]? = some (.cells #[.int .i64 0, .int .i64 0] 32) := blk_ex (w := ((w.alloc (.cells #[.slice ao k cap] 24)).alloc (.cells #[.slice none 0 0] 24)).alloc (.cells #[.int .i64 0, .int .i64 0] 32)) sn0 (by rw [blk_alloc, if_pos (by simp [go_sem])]); have hrl := blk_lt hr2) | (at_builtin; refine wpList_append_lay2 (T := w) rfl _ _ rfl kinS fS_c fS_1 rfl sn0 ((o1.base (T' := w) (by simp [go_sem]; omega)).ex sk0) rfl (l2 := [dSl]) ⟨rfl, .inr ⟨_, 0, rfl, by (simp [go_sem]; try omega), fun jj u hu => by match jj, hu with | 0, hu => (simp [fS, dSl] at hu; subst hu; simp [go_sem, ↓IntWalk.iteOmega]) | 1, hu => (simp [fS, dSl] at hu; subst hu; simp [go_sem, ↓IntWalk.iteOmega]) | jj + 2, hu => simp [fS, dSl] at hu⟩⟩ (by omega) (by decide) ?_; intro a4 c4 w4 o4 hx4 hgr4; have bx := grown_blk (g := w1.heap.size) hgr4 ((o1.base (T' := w) (by simp [go_sem]; omega)).ex sk0) (blk_ex (w := w1.alloc (.cells #[.slice a1 k c1] 24)) sk0 (by rw [blk_alloc, if_pos rfl])) (by decide); have b1 := grown_blk hgr4 ((o1.base (T' := w) (by simp [go_sem]; omega)).ex sk0) (blk_ex sk0 hr1) (by decide); have b2 := grown_blk hgr4 ((o1.base (T' := w) (by simp [go_sem]; omega)).ex sk0) (blk_ex sk0 hr2) (by decide); have u3 := cell_blk (i := 0) bx rfl; have v3 := frozen_blk (i := 0) bx; have lx := blk_lt bx; have l2 := blk_lt b2))
    obtain ⟨g1, cur0, rfl, _, hb4, _⟩ := o4.blk (by omega)
    have n4 : g1 ≠ w1.heap.size := by
      intro e0
      rw [e0, bx] at hb4
      cases hb4
    have hq : (w4.setCell ⟨w1.heap.size, 0, none⟩ (.slice (some ⟨g1, 0, none⟩) (k + 1) c4)).heap[w1.heap.size]? = some (.cells #[.slice (some ⟨g1, 0, none⟩) (k + 1) c4] 24) := blk_set_eq bx
    have hr1' : (w4.setCell ⟨w1.heap.size, 0, none⟩ (.slice (some ⟨g1, 0, none⟩) (k + 1) c4)).heap[w.heap.size + 1]? = _ := (blk_set_ne (by omega)).trans b1
    have hr2' : (w4.setCell ⟨w1.heap.size, 0, none⟩ (.slice (some ⟨g1, 0, none⟩) (k + 1) c4)).heap[w.heap.size + 1 + 1]? = _ := (blk_set_ne (by omega)).trans b2
    have o2 := o4.set_other (i := 0) (u := .slice (some ⟨g1, 0, none⟩) (k + 1) c4) bx (by decide)
    have hx2 : ∃ y, w4.setCell ⟨w1.heap.size, 0, none⟩ (.slice (some ⟨g1, 0, none⟩) (k + 1) c4) = plus w y := ex_set_new hx4 (by omega)
    clear u3 v3 bx b1 b2 o4 hx4 hgr4 hb4 n4
    generalize w4.setCell ⟨w1.heap.size, 0, none⟩ (.slice (some ⟨g1, 0, none⟩) (k + 1) c4) = w2 at *
    have hKM : k < k + 1 := Nat.lt_succ_self k
    have iK : (k : Int) < (((k + 1) : Nat) : Int) := by omega
    obtain ⟨_, cur, eqa, hgw, hb1, _⟩ := o2.blk (by omega)
    cases eqa
    obtain ⟨_, _, eqa, hlt1, hc1⟩ := o2.lay.some (by omega)
    cases eqa
    obtain ⟨x0, x1⟩ := cellS o2.1 hc1 (k := k) hKM
    rw [Nat.zero_add] at x0 x1
    rw [nth_append_right (by omega), show k - l.length = 0 by omega] at x0 x1
    simp only [nth, dSl, List.getD_cons_zero] at x0 x1
    have y0 := cell_blk (i := 0) hq rfl
    have z0 := frozen_blk (i := k * 2) hb1
    have z1 := frozen_blk (i := k * 2 + 1) hb1
    have hlq := blk_lt hq
    have n1 : g1 ≠ w.heap.size + 1 := by
      intro e0
      rw [e0, hr1'] at hb1
      cases hb1
    have n2 : g1 ≠ w.heap.size + 1 + 1 := by
      intro e0
      rw [e0, hr2'] at hb1
      cases hb1
    have nq : g1 ≠ w1.heap.size := by
      intro e0
      rw [e0, hq] at hb1
      cases hb1
    go_wp2
    refine region_tail 6 (by kernel_rfl) (by kernel_rfl) ?_
    simp only [List.take_succ_cons, List.take_zero, List.drop_succ_cons, List.drop_zero]
    (repeat (go_big_quiet_step ((go_at_call 168; exact plus_of (lslotOf_calls _ _ _)))))
    refine wpQuiet_nil ?_
    rintro _ ⟨x2, rfl⟩
    go_wp2
    have o3 := (o2.set_self (u := .int .i64 (1)) k 0 ⟨1, (nth dSl (l ++ [dSl]) k).live⟩ dSl hKM fS_c (by decide) rfl).set_self (u := .bool true) k 1 ⟨1, true⟩ dSl hKM fS_c (by decide) (by rw [nth_set' (by rw [o2.1]; exact hKM), if_pos rfl]; rfl)
    rw [List.set_set, Nat.add_zero] at o3
    have r1 : ((w2.setCell ⟨g1, k * 2, none⟩ (.int .i64 1)).setCell ⟨g1, k * 2 + 1, none⟩ (.bool true)).heap[w.heap.size + 1]? = _ := (blk_set_ne n1).trans ((blk_set_ne n1).trans hr1')
    have r2 : ((w2.setCell ⟨g1, k * 2, none⟩ (.int .i64 1)).setCell ⟨g1, k * 2 + 1, none⟩ (.bool true)).heap[w.heap.size + 1 + 1]? = _ := (blk_set_ne n2).trans ((blk_set_ne n2).trans hr2')
    have rq : ((w2.setCell ⟨g1, k * 2, none⟩ (.int .i64 1)).setCell ⟨g1, k * 2 + 1, none⟩ (.bool true)).heap[w1.heap.size]? = _ := (blk_set_ne nq).trans ((blk_set_ne nq).trans hq)
    have hsz2 : ((w2.setCell ⟨g1, k * 2, none⟩ (.int .i64 1)).setCell ⟨g1, k * 2 + 1, none⟩ (.bool true)).heap.size = w2.heap.size := by rw [size_set, size_set]
    have hx3 : ∃ y, (w2.setCell ⟨g1, k * 2, none⟩ (.int .i64 1)).setCell ⟨g1, k * 2 + 1, none⟩ (.bool true) = plus w y := ex_set_new (ex_set_new hx2 hgw) hgw
    clear x0 x1 y0 z0 z1 hb1 hc1 hr1' hr2' hq o2 hx2
    generalize (w2.setCell ⟨g1, k * 2, none⟩ (.int .i64 1)).setCell ⟨g1, k * 2 + 1, none⟩ (.bool true) = w5 at *
    have hh : (w5.alloc (.cells #[.int .i64 k, .int .i64 1] 32)).heap[w2.heap.size]? = some (.cells #[.int .i64 k, .int .i64 1] 32) := by rw [blk_alloc, if_pos hsz2.symm]
    have hh' := blk_ex (ex_plus (y := x2) (ex_refl _)) hh
    have r1' := blk_ex (ex_plus (y := x2) (ex_alloc (o := (.cells #[.int .i64 k, .int .i64 1] 32)) (ex_refl w5))) r1
    have r2' := blk_ex (ex_plus (y := x2) (ex_alloc (o := (.cells #[.int .i64 k, .int .i64 1] 32)) (ex_refl w5))) r2
    have rq' := blk_ex (ex_plus (y := x2) (ex_alloc (o := (.cells #[.int .i64 k, .int .i64 1] 32)) (ex_refl w5))) rq
    have o3' := o3.ex (ex_plus (y := x2) (ex_alloc (o := (.cells #[.int .i64 k, .int .i64 1] 32)) (ex_refl w5)))
    have hx3' := ex_plus (y := x2) (ex_alloc (o := (.cells #[.int .i64 k, .int .i64 1] 32)) hx3)
    clear r1 r2 rq o3 hx3 hh
    generalize plus (w5.alloc (.cells #[.int .i64 k, .int .i64 1] 32)) x2 = w3 at *
    have f0 := cell_blk (i := 0) rq' rfl
    have f1 := cell_blk (i := 0) hh' rfl
    have f2 := cell_blk (i := 1) hh' rfl
    have nb : w.heap.size + 1 ≠ w.heap.size + 1 + 1 := by omega
    refine region_relG 5 l12S (l12Φ g1 ((k + 1)) c4 k (1) (w.heap.size + 1) (.cells #[.slice (some ⟨g1, 0, none⟩) (k + 1) c4] 24) (w.heap.size + 1 + 1) (.cells #[.int .i64 k, .int .i64 1] 32)) (Two (w.heap.size + 1) (.cells #[.slice (some ⟨g1, 0, none⟩) (k + 1) c4] 24) (w.heap.size + 1 + 1) (.cells #[.int .i64 k, .int .i64 1] 32)) two_trans (two_draw _) (by kernel_rfl) (by kernel_rfl) (by decide) (l12Φ_mono _ _ _ _ _ _ _ _ _) ?steps ?fin
    case steps =>
      refine ⟨?_, ?_, ?_, ?_, ?_, trivial⟩
      · intro a w' hg hfree hdeep
        have f7' := hfree 7 (by kernel_rfl)
        have e0 := two_cell hg f0 (by omega) (by omega)
        simp only [l12Φ, got] at f7'
        simp [go_sem] at f7'
        unfold Oper.wp
        simp [go_sem, execOp, Act.eval, ↓IntWalk.iteOmega, f7', e0]
        exact ⟨_, rfl, two_refl _, by simp [l12Φ, upd]⟩
      · intro a w' hg hfree hdeep
        have f8' := hfree 8 (by kernel_rfl)
        have e1 := two_cell hg f1 (by omega) (by omega)
        have e2 := two_cell hg f2 (by omega) (by omega)
        simp only [l12Φ, got] at f8'
        simp [go_sem] at f8'
        unfold Oper.wp
        simp [go_sem, execOp, Act.eval, ↓IntWalk.iteOmega, f8', e1, e2]
        exact ⟨_, rfl, two_refl _, by simp [l12Φ, upd]⟩
      · intro a w' hg hfree hdeep
        have f2' := hfree 2 (by kernel_rfl)
        have d0 := hdeep 0 (by kernel_rfl)
        simp only [l12Φ, got] at f2' d0
        simp [go_sem] at f2'
        rcases two_one hg r1' with hb | hb
        · have c0' := cell_blk (i := 0) hb rfl; have z0' := frozen_blk (i := 0) hb
          unfold Oper.wp
          simp [go_sem, execOp, Act.eval, f2', d0, c0', z0']
          exact ⟨two_set1 nb (blk_set_eq hb), undef, (blk_set_eq hb)⟩
        · have c0' := cell_blk (i := 0) hb rfl; have z0' := frozen_blk (i := 0) hb
          unfold Oper.wp
          simp [go_sem, execOp, Act.eval, f2', d0, c0', z0']
          exact ⟨two_set1 nb (blk_set_eq hb), undef, (blk_set_eq hb)⟩
      · intro a w' hg hfree hdeep
        have f3' := hfree 3 (by kernel_rfl)
        have d1 := hdeep 1 (by kernel_rfl)
        simp only [l12Φ, got] at f3' d1
        simp [go_sem] at f3'
        rcases two_two hg r2' with hb | hb
        · have c0' := cell_blk (i := 0) hb rfl; have z0' := frozen_blk (i := 0) hb; have c1' := cell_blk (i := 1) hb rfl; have z1' := frozen_blk (i := 1) hb
          unfold Oper.wp
          simp [go_sem, execOp, Act.eval, f3', d1, c0', z0', c1', z1']
          exact ⟨two_set2 nb (blk_set_eq (blk_set_eq hb)), undef, (blk_set_eq (blk_set_eq hb))⟩
        · have c0' := cell_blk (i := 0) hb rfl; have z0' := frozen_blk (i := 0) hb; have c1' := cell_blk (i := 1) hb rfl; have z1' := frozen_blk (i := 1) hb
          unfold Oper.wp
          simp [go_sem, execOp, Act.eval, f3', d1, c0', z0', c1', z1']
          exact ⟨two_set2 nb (blk_set_eq (blk_set_eq hb)), undef, (blk_set_eq (blk_set_eq hb))⟩
      · intro a w' hg hfree hdeep
        unfold Oper.wp
        simp [go_sem, execOp, Act.eval, ↓IntWalk.iteOmega]
        exact ⟨_, rfl, two_refl _, by simp [l12Φ, upd]⟩
    case fin =>
      rintro t w4 hg hΦ
      have h9 := hΦ 2 (by decide)
      have h10 := hΦ 3 (by decide)
      have h11 := hΦ 4 (by decide)
      simp only [l12Φ] at h9 h10 h11
      have o4 := o3'.two hg r1' r2' (by decide) (by decide)
      have hx4 := two_ex hg hx3' (by omega) (by omega)
      simp only [putAll, List.take_succ_cons, List.take_zero, List.take_nil, Act.put]
      simp only [List.setIfInBounds_toArray, List.set_cons_succ, List.set_cons_zero, h11]
      simp only [List.drop_succ_cons, List.drop_zero]
      clear hΦ hg o3' hx3' f0 f1 f2 r1' r2' rq' hh'
      have c0 := cell_blk (i := 0) h9 rfl
      have c1' := cell_blk (i := 0) h10 rfl
      have c2' := cell_blk (i := 1) h10 rfl
      go_wp2
      have hpost : RetM w (mkRes l) (mkS l) (mkG l) (mkErr l) (.returned (.tuple #[.agg #[.slice (some ⟨g1, 0, none⟩) (k + 1) c4], .agg #[.int .i64 k, .int .i64 1], .int .i64 0])) w4 := by
        rw [mkRes, mkS, mkG, if_pos he, if_pos he, if_pos he, he, hml, hmg, hmS]
        exact ⟨some ⟨g1, 0, none⟩, c4, by rw [o4.1], hx4, by rw [o4.1]; exact o4⟩
      exact bodyPost_ret (v := .tuple #[.agg #[.slice (some ⟨g1, 0, none⟩) (k + 1) c4], .agg #[.int .i64 k, .int .i64 1], .int .i64 0]) (by simp [results, Tryz.results161, go_sem, c0, c1', c2']) rfl hpost

end

end Go.Proofs.YtcekcihijdipoaaGreat
