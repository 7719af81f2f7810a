/- A pack of texts: NdP1. -/
import Derived.Maps.OwnSet
import Derived.Maps.AppendAt
import Derived.Laws.EntriesVeiled
import Derived.Test.YtcekcihijdipoaaGreatPT10
import Derived.Test.YtcekcihijdipoaaGreatPT11
import Derived.Test.YtcekcihijdipoaaGreatPT2
namespace Go.Proofs.YtcekcihijdipoaaGreat

section


open Go.RowKit Go.ChangeShapes Go.WideShapes Go.ChangeAt

set_option linter.unusedSimpArgs false

set_option linter.unusedVariables false

attribute [local go_sem] plus_size plus_drew dn_set dn_alloc dn_plus plus_dn cell_plus frozen_plus set_plus cell_alloc frozen_alloc set_alloc

theorem isnil_88 (ao : Option Addr) (n cap : Nat) (w : World) : (binOp .eql 88 (.slice ao n cap) (.slice none 0 0)).run Tryz.prog w = .ok (.bool ao.isNone) w := Lib.run_eql_slice_nil w _ _ ao n cap 0 0 Tryz.underlying88

attribute [local go_sem] isnil_88

set_option maxHeartbeats 2000000 in
theorem equalH_calls (ao ao2 : Option Addr) (n n2 cap cap2 : Nat) (l l2 : List (Int × Int)) (w : World) (hl : Lay f2 w ao n l) (hl2 : Lay f2 w ao2 n2 l2) (hn : n ≤ 10000) (hn2 : n2 ≤ 10000) :
    Calls Tryz.prog 154 #[.slice ao n cap, .slice ao2 n2 cap2] w fun e w' => e = .returned (.bool (same2 l l2)) ∧ Below w.heap.size w w' := by
  have hlen := hl.len
  have hlen2 := hl2.len
  by_cases hne : n = n2
  rotate_left
  · rw [show same2 l l2 = false from same_len (by omega)]
    have ine : ¬ (n : Int) = (n2 : Int) := by omega
    have dne : ((n : Int) == (n2 : Int)) = false := by rw [beq_eq_false_iff_ne]; omega
    go_enter Tryz.func154, Tryz.ntmps154
    go_wp2
    go_ret
    exact ⟨rfl, skB⟩
  subst hne
  go_enter Tryz.func154, Tryz.ntmps154
  go_wp2
  go_loopw [13] (fun i wr => ∃ k : Nat, k ≤ n ∧ i = .int .i64 k ∧ (∀ j, j < k → eq2 (nth (0, 0) l j) (nth (0, 0) l2 j) = true) ∧ ∃ x, wr = plus w x) (fun i _ => n - (intOf i).toNat)
  case atStart => exact ⟨0, Nat.zero_le _, rfl, fun j hj => by omega, sk0⟩
  case round =>
    obtain ⟨k, hk, rfl, hs, x, rfl⟩ := hrel
    by_cases hkl : k < n
    · obtain ⟨g, off, rfl, hg, hcell⟩ := hl.some (by omega)
      obtain ⟨g2, off2, rfl, hg2, hcell2⟩ := hl2.some (by omega)
      have ik : (k : Int) < (n : Int) := by omega
      obtain ⟨c0, c1⟩ := cell2 hlen hcell hkl
      obtain ⟨d0, d1⟩ := cell2 hlen2 hcell2 hkl
      by_cases q0 : (nth (0, 0) l k).1 = (nth (0, 0) l2 k).1
      rotate_left
      · have dq : ((nth (0, 0) l k).1 == (nth (0, 0) l2 k).1) = false := by simp [q0]
        go_wp2
        refine region_plus (by kernel_rfl) (by kernel_rfl) ?_
        (repeat (go_big_quiet_step (fail)))
        refine wpQuiet_nil ?_
        rintro _ ⟨x2, rfl⟩
        go_wp2
        go_ret
        exact ⟨by rw [show same2 l l2 = false from same_not (k := k) (by omega) (by simp [eq2, q0])]; rfl, skB⟩
      by_cases q1 : (nth (0, 0) l k).2 = (nth (0, 0) l2 k).2
      rotate_left
      · have dq : ((nth (0, 0) l k).2 == (nth (0, 0) l2 k).2) = false := by simp [q1]
        go_wp2
        refine region_plus (by kernel_rfl) (by kernel_rfl) ?_
        (repeat (go_big_quiet_step (fail)))
        refine wpQuiet_nil ?_
        rintro _ ⟨x2, rfl⟩
        go_wp2
        go_ret
        exact ⟨by rw [show same2 l l2 = false from same_not (k := k) (by omega) (by simp [eq2, q1])]; rfl, skB⟩
      go_wp2
      refine region_plus (by kernel_rfl) (by kernel_rfl) ?_
      (repeat (go_big_quiet_step (fail)))
      refine wpQuiet_nil ?_
      rintro _ ⟨x2, rfl⟩
      go_wp2
      go_roundw
      case rel => exact ⟨k + 1, by omega, by go_num, upto_succ hs (by simp [eq2, q0, q1]), sk0⟩
      case measure => simp [intOf]; omega
    · have ik : ¬ (k : Int) < (n : Int) := by omega
      go_wp2
      go_ret
      exact ⟨by rw [show same2 l l2 = true from same_all (by omega) (fun j hj => hs j (by omega))]; rfl, skB⟩

theorem cloneH (ao : Option Addr) (n cap : Nat) (l : List (Int × Int)) (w : World) (hl : Lay f2 w ao n l) (hn : n ≤ 10000) (hz : ao = none → cap = 0) :
    Calls Tryz.prog 138 #[.slice ao n cap] w fun e w' => RetO 32 2 f2 w l e w' := by
  cases ao with
  | none =>
    obtain rfl : n = 0 := by rcases hl.at0 with h | ⟨g, off, h, _⟩; exact h; cases h
    obtain rfl := hz rfl
    obtain rfl := hl.zero
    go_enter Tryz.func138, Tryz.ntmps138
    go_wp2
    go_ret
    exact ⟨none, 0, 0, rfl, sk0, own_nil⟩
  | some a =>
    go_enter Tryz.func138, Tryz.ntmps138
    go_wp2_with (at_builtin; (refine wpList_append_lay (T := w) (l := []) rfl _ _ rfl kinH f2_c f2_1 rfl sk0 ⟨rfl, World.ownsRow_made w _ 0 (Nat.le_refl _) (by decide) rfl⟩ rfl (hl.ex sk0) (by omega) (by decide) ?_; intro ao' cap' y' hown'))
    go_ret
    rw [Nat.zero_add, List.nil_append] at hown'
    exact ⟨ao', _, cap', rfl, sk0, hown'⟩

theorem samek_is {w : World} {ao ao2 : Option Addr} {n n2 cap cap2 : Nat} {l l2 : List (Int × Int)} {b : Bool} (h : same2 l l2 = b) (hl : Lay f2 w ao n l) (hl2 : Lay f2 w ao2 n2 l2) (hn : n ≤ 10000) (hn2 : n2 ≤ 10000) :
    Calls Tryz.prog 106 #[.slice ao n cap, .slice ao2 n2 cap2] w fun e w' => e = .returned (.bool b) ∧ Below w.heap.size w w' := by
  subst h
  go_enter Tryz.func106, Tryz.ntmps106
  go_wp2_with (go_at_call 154; refine (plus_post (equalH_calls _ _ _ _ _ _ l l2 _ (hl.ex sk0) (hl2.ex sk0) hn hn2)).mono ?_; rintro e w' ⟨rfl, nx, rfl⟩)
  go_ret
  exact ⟨rfl, skB⟩

set_option maxRecDepth 100000 in
set_option maxHeartbeats 4000000 in
theorem equalF_calls (ao : Option Addr) (n cap : Nat) (ko : Option Addr) (kn kcap : Nat) (hs : List RH) (a : Gr) (ao2 : Option Addr) (n2 : Nat) (ko2 : Option Addr) (kn2 kcap2 : Nat) (hs2 : List RH) (b : Gr) (w : World) (hG : GrAt w ao n ko kn hs a) (hG2 : GrAt w ao2 n2 ko2 kn2 hs2 b) :
    Calls Tryz.prog 105 #[.slice ko kn kcap, .slice ko2 kn2 kcap2, .func (.func 106) #[] #[]] w fun e w' => e = .returned (.bool (sameK a.ks b.ks)) ∧ Below w.heap.size w w' := by
  have hlen := hG.kl
  have hlen2 := hG2.kl
  have b3 := hG.n2
  have b4 := hG2.n2
  by_cases hne : kn = kn2
  rotate_left
  · rw [show sameK a.ks b.ks = false from same_len (by omega)]
    have ine : ¬ (kn : Int) = (kn2 : Int) := by omega
    have dne : ((kn : Int) == (kn2 : Int)) = false := by rw [beq_eq_false_iff_ne]; omega
    go_enter Tryz.func105, Tryz.ntmps105
    go_wp2
    go_ret
    exact ⟨rfl, skB⟩
  subst hne
  go_enter Tryz.func105, Tryz.ntmps105
  go_wp2
  go_loopw [17] (fun i wr => ∃ k : Nat, k ≤ kn ∧ i = .int .i64 k ∧ (∀ j, j < k → same2 (nth [] a.ks j) (nth [] b.ks j) = true) ∧ ∃ x, wr = plus w x) (fun i _ => kn - (intOf i).toNat)
  case atStart => exact ⟨0, Nat.zero_le _, rfl, fun j hj => by omega, sk0⟩
  case round =>
    obtain ⟨k, hk, rfl, hs', x, rfl⟩ := hrel
    by_cases hkl : k < kn
    · have ik : (k : Int) < (kn : Int) := by omega
      obtain ⟨g1, o1, rfl, hg1, hc1⟩ := hG.kh.some (by omega)
      obtain ⟨g2, o2, rfl, hg2, hc2⟩ := hG2.kh.some (by omega)
      have c1 := cellR hG.kh.len hc1 hkl
      have c2 := cellR hG2.kh.len hc2 hkl
      have r1 := hG.row k (by rw [hG.kh.len]; exact hkl)
      have r2 := hG2.row k (by rw [hG2.kh.len]; exact hkl)
      have m1 := hG.n3 k (by rw [hG.kh.len]; exact hkl)
      have m2 := hG2.n3 k (by rw [hG2.kh.len]; exact hkl)
      cases hq : same2 (nth [] a.ks k) (nth [] b.ks k)
      · go_wp2_with (go_at_call 106; refine (plus_post (samek_is hq (r1.ex sk0) (r2.ex sk0) (by omega) (by omega))).mono ?_; rintro e w' ⟨rfl, nx, rfl⟩)
        go_ret
        exact ⟨by rw [show sameK a.ks b.ks = false from same_not (k := k) (by omega) hq]; rfl, skB⟩
      · go_wp2_with (go_at_call 106; refine (plus_post (samek_is hq (r1.ex sk0) (r2.ex sk0) (by omega) (by omega))).mono ?_; rintro e w' ⟨rfl, nx, rfl⟩)
        go_roundw
        case rel => exact ⟨k + 1, by omega, by go_num, upto_succ hs' hq, sk0⟩
        case measure => simp [intOf]; omega
    · have ik : ¬ (k : Int) < (kn : Int) := by omega
      go_wp2
      go_ret
      exact ⟨by rw [show sameK a.ks b.ks = true from same_all (by omega) (fun j hj => hs' j (by omega))]; rfl, skB⟩

set_option maxRecDepth 100000 in
set_option maxHeartbeats 4000000 in
theorem nsame_calls (ao : Option Addr) (n cap : Nat) (ko : Option Addr) (kn kcap : Nat) (hs : List RH) (a : Gr) (ao2 : Option Addr) (n2 cap2 : Nat) (ko2 : Option Addr) (kn2 kcap2 : Nat) (hs2 : List RH) (b : Gr) (w : World) (hG : GrAt w ao n ko kn hs a) (hG2 : GrAt w ao2 n2 ko2 kn2 hs2 b) :
    Calls Tryz.prog 55 #[.agg #[.slice ao n cap, .slice ko kn kcap], .agg #[.slice ao2 n2 cap2, .slice ko2 kn2 kcap2]] w fun e w' => e = .returned (.bool (sameG a b)) ∧ Below w.heap.size w w' := by
  have b1 := hG.n1
  have b2 := hG2.n1
  cases hS : sameS a.sl b.sl
  · rw [show sameG a b = false by rw [sameG, hS]; rfl]
    go_enter Tryz.func55, Tryz.ntmps55
    go_wp2_with (go_at_call 104; refine (plus_post (lsame_calls _ _ _ _ _ _ a.sl b.sl _ (hG.sl.ex sk0) (hG2.sl.ex sk0) (by omega) (by omega))).mono ?_; rintro e w' ⟨rfl, nx, rfl⟩; rw [hS])
    go_ret
    exact ⟨rfl, skB⟩
  rw [show sameG a b = sameK a.ks b.ks by rw [sameG, hS]; rfl]
  go_enter Tryz.func55, Tryz.ntmps55
  go_wp2_with (first | (go_at_call 104; refine (plus_post (lsame_calls _ _ _ _ _ _ a.sl b.sl _ (hG.sl.ex sk0) (hG2.sl.ex sk0) (by omega) (by omega))).mono ?_; rintro e w' ⟨rfl, nx, rfl⟩; rw [hS]) | (go_at_call 105; refine (plus_post (equalF_calls ao n cap _ _ _ hs a ao2 n2 _ _ _ hs2 b _ (hG.ex sk0) (hG2.ex sk0))).mono ?_; rintro e w' ⟨rfl, nx, rfl⟩))
  go_ret
  exact ⟨rfl, skB⟩

end

/- What nodes.twinKids and Twin give. -/
section

open Go.RowKit Go.ChangeShapes Go.WideShapes Go.ChangeAt

set_option linter.unusedSimpArgs false

set_option linter.unusedVariables false

attribute [local go_sem] plus_size plus_drew dn_set dn_alloc dn_plus plus_dn cell_plus frozen_plus set_plus cell_alloc frozen_alloc set_alloc

theorem lay_at {α : Type} {f : α → List Value} {w : World} {g off n : Nat} {l : List α} (h : Lay f w (some ⟨g, off, none⟩) n l) (hn : 0 < n) : ∀ j u, (l.flatMap f)[j]? = some u → w.cell? ⟨g, off + j, none⟩ = some u := by
  obtain ⟨g', o', e, _, h2⟩ := h.some hn
  cases e
  exact h2

theorem flat_rep : ∀ n, (List.replicate n dRH).flatMap fR = List.replicate n (.slice none 0 0)
  | 0 => rfl
  | n + 1 => by rw [List.replicate_succ, List.flatMap_cons, flat_rep n, List.replicate_succ]; rfl

theorem run_make_rows (n : Nat) (hn : n ≤ 100000) (w : World) : (Instr.makeSlice 25 (.int .i64 n) (.int .i64 n)).run Tryz.prog w = .ok (.slice (some ⟨w.heap.size, 0, none⟩) n n) (w.alloc (.cells ((List.replicate n dRH).flatMap fR).toArray 88)) := by
  obtain ⟨i, hi, hz, hz1, hz2⟩ := info_parts (show (Tryz.prog.info? 88).map (fun i => (i.zero, i.size, i.bytes)) = some (some (.slice none 0 0), 1, 24) by kernel_rfl)
  have hb1 : i.bytes * n ≤ 281474976710656 := by rw [hz2]; omega
  have h := run_make w 25 88 i (.slice none 0 0) Tryz.underlying25 hi hz .i64 .i64 n n (by omega) (Int.le_refl _) (by rw [← Int.natCast_mul]; omega) (by omega)
  rw [Int.toNat_natCast, hz1, Nat.mul_one] at h
  rw [h, flat_rep, ← toList_madeCells_one, Array.toArray_toList]
  rfl

def Apart (hs : List RH) : Prop := ∀ j k, j < hs.length → k < hs.length → j ≠ k → ∀ a b, (nth dRH hs j).ao = some a → (nth dRH hs k).ao = some b → a.block ≠ b.block

theorem nth_rep {n j : Nat} : nth dRH (List.replicate n dRH) j = dRH := by
  unfold nth
  by_cases h : j < n
  · simp [h]
  · simp [h]

theorem apart_rep (n : Nat) : Apart (List.replicate n dRH) := by
  intro j k _ _ _ a b ha
  rw [nth_rep] at ha
  cases ha

theorem apart_set {hs : List RH} {k : Nat} {r : RH} (h : Apart hs) (hk : k < hs.length) (hr : ∀ j, j < hs.length → j ≠ k → ∀ a b, (nth dRH hs j).ao = some a → r.ao = some b → a.block ≠ b.block) : Apart (hs.set k r) := by
  intro i j hi hj hne a b ha hb
  rw [List.length_set] at hi hj
  rw [nth_set' hk] at ha hb
  by_cases ei : i = k
  · rw [if_pos ei] at ha
    rw [if_neg (fun e => hne (by omega))] at hb
    exact fun e => hr j hj (fun e => hne (by omega)) b a hb ha e.symm
  · rw [if_neg ei] at ha
    by_cases ej : j = k
    · rw [if_pos ej] at hb
      exact hr i hi ei a b ha hb
    · rw [if_neg ej] at hb
      exact h i j hi hj hne a b ha hb

theorem own_loc {α : Type} {f : α → List Value} {T w : World} {ao : Option Addr} {n cap c : Nat} {l : List α} {e : TypeId} (h : Own e c f T w ao n cap l) {a : Addr} (ha : ao = some a) : T.heap.size ≤ a.block ∧ a.block < w.heap.size := by
  rcases h.2.2 with ⟨h1, _⟩ | ⟨k, cp, cu, h1, h2, h3, _⟩
  · simp only [Value.slice.injEq, ha] at h1
    cases h1.1
  · simp only [Value.slice.injEq, ha, Option.some.injEq] at h1
    have := blk_lt h3
    rw [h1.1]
    exact ⟨h2, this⟩

structure KOwn (T w : World) (ko : Option Addr) (kn kcap : Nat) (hs : List RH) (ks : List (List (Int × Int))) : Prop where
  kh : Own 88 1 fR T w ko kn kcap hs
  len : hs.length = ks.length
  row : ∀ k, k < hs.length → Own 32 2 f2 T w (nth dRH hs k).ao (nth dRH hs k).n (nth dRH hs k).cap (nth [] ks k)
  apart : Apart hs

section

variable {T T' w w' : World} {ko : Option Addr} {kn kcap : Nat} {hs : List RH} {ks : List (List (Int × Int))}

theorem KOwn.ex (h : KOwn T w ko kn kcap hs ks) (hw : ∃ x, w' = plus w x) : KOwn T w' ko kn kcap hs ks := ⟨h.kh.ex hw, h.len, fun k hk => (h.row k hk).ex hw, h.apart⟩

theorem KOwn.base (h : KOwn T w ko kn kcap hs ks) (hT : T'.heap.size ≤ T.heap.size) : KOwn T' w ko kn kcap hs ks := ⟨h.kh.base hT, h.len, fun k hk => (h.row k hk).base hT, h.apart⟩

theorem KOwn.set_other {gb i : Nat} {u : Value} {cur : Array Value} {e' : TypeId} (h : KOwn T w ko kn kcap hs ks) (hb : w.heap[gb]? = some (.cells cur e')) (h2 : e' ≠ 88) (h3 : e' ≠ 32) : KOwn T (w.setCell ⟨gb, i, none⟩ u) ko kn kcap hs ks :=
  ⟨h.kh.set_other hb h2, h.len, fun k hk => (h.row k hk).set_other hb h3, h.apart⟩

theorem KOwn.kl (h : KOwn T w ko kn kcap hs ks) : ks.length = kn := h.len.symm.trans h.kh.1

theorem GrOwn.mk2 {ao : Option Addr} {n cap : Nat} {l : List Sl} (h : KOwn T w ko kn kcap hs ks) (hsl : Own 86 2 fS T w ao n cap l) : GrOwn T w ao n cap ko kn kcap hs ⟨l, ks⟩ := ⟨hsl, h.kh, h.len, h.row⟩

end

def RetK (w : World) (kn : Nat) (ks : List (List (Int × Int))) (e : Ending) (w' : World) : Prop := ∃ ko' kcap' hs', e = .returned (.slice ko' kn kcap') ∧ (∃ y, w' = plus w y) ∧ KOwn w w' ko' kn kcap' hs' ks

set_option maxRecDepth 100000 in
set_option maxHeartbeats 4000000 in
theorem twinK_calls (ao : Option Addr) (n cap : Nat) (ko : Option Addr) (kn kcap : Nat) (hs : List RH) (gr : Gr) (w : World) (hG : GrAt w ao n ko kn hs gr) :
    Calls Tryz.prog 82 #[.slice ko kn kcap] w fun e w' => RetK w kn gr.ks e w' := by
  have hlen := hG.kl
  have hkh := hG.kh.len
  have b3 := hG.n2
  have hmk := run_make_rows kn (by omega)
  go_enter Tryz.func82, Tryz.ntmps82
  go_wp2
  go_loopw [11] (fun i wr => ∃ (k : Nat) (hs' : List RH), k ≤ kn ∧ i = .int .i64 k ∧ (∃ y, wr = plus w y) ∧ Own 88 1 fR w wr (some ⟨w.heap.size, 0, none⟩) kn kn hs' ∧ (∀ j, j < k → Own 32 2 f2 w wr (nth dRH hs' j).ao (nth dRH hs' j).n (nth dRH hs' j).cap (nth [] gr.ks j)) ∧ (∀ j, k ≤ j → nth dRH hs' j = dRH) ∧ Apart hs') (fun i _ => kn - (intOf i).toNat)
  case atStart => exact ⟨0, List.replicate kn dRH, Nat.zero_le _, rfl, sk0, own_row (by simp) fR_c (by rw [blk_alloc, if_pos rfl]) (Nat.le_refl _) (by unfold maxLen; omega), fun j hj => by omega, fun j _ => nth_rep, apart_rep kn⟩
  case round =>
    obtain ⟨k, hs', hk, rfl, hx, okh, orow, hlate, hap⟩ := hrel
    by_cases hkl : k < kn
    · have ik : (k : Int) < (kn : Int) := by omega
      obtain ⟨g1, o1, rfl, hg1, hc1⟩ := hG.kh.some (by omega)
      have c1 := cell_ex hx (cellR hG.kh.len hc1 hkl)
      have r1 := (hG.row k (by omega)).ex hx
      have m1 := hG.n3 k (by omega)
      have m5 := hG.n5 k (by omega)
      obtain ⟨gb, cur, eb, hgb, hbb, hsz⟩ := okh.blk (by omega)
      cases eb
      have lb := blk_lt hbb
      have hlt : ∀ j, j < k → ∀ a, (nth dRH hs' j).ao = some a → a.block < wr.heap.size := fun j hj a ha => (own_loc (orow j hj) ha).2
      go_wp2_with (go_at_call 138; refine (cloneH _ _ _ (nth [] gr.ks k) _ (r1.ex sk0) (by omega) (fun h => (m5 h).2)).mono ?_; rintro e w1 ⟨a1, m1', c1', rfl, hw1, o1'⟩; have hgt : ∀ b, a1 = some b → wr.heap.size ≤ b.block := (fun b hb => (own_loc o1' hb).1); have q1 := o1'.1; have okh1 := okh.ex hw1; have bb1 := blk_ex hw1 hbb; have k0 := cellR okh1.1 (g := w.heap.size) (off := 0) (w := w1) (lay_at okh1.lay (by omega)) hkl; rw [Nat.zero_add] at k0; have z0 := frozen_blk (i := k) bb1; have okh2 := okh1.set_self (u := .slice a1 m1' c1') k 0 ⟨a1, m1', c1'⟩ dRH hkl fR_c (by decide) rfl; rw [Nat.mul_one, Nat.add_zero] at okh2; have hx2 := ex_set_new (i := k) (u := .slice a1 m1' c1') (g := w.heap.size) (ex_trans hx hw1) (Nat.le_refl _); have on2 := (o1'.base (T' := w) (by have := size_ex hx; omega)).set_other (i := k) (u := .slice a1 m1' c1') bb1 (by decide); have orow2 := fun j hj => ((orow j hj).ex hw1).set_other (i := k) (u := .slice a1 m1' c1') bb1 (by decide); have lh := okh.1)
      clear okh okh1 orow o1' hbb c1 r1
      go_roundw
      case rel =>
        refine ⟨k + 1, hs'.set k ⟨a1, m1', c1'⟩, by omega, by go_num, hx2, okh2, fun j hj => ?_, fun j hj => ?_, apart_set hap (by omega) fun j hj hjk a b ha hb => ?_⟩
        · rw [nth_set (by omega)]
          by_cases ej : j = k
          · subst ej
            rw [if_pos rfl]
            exact on2
          · rw [if_neg ej]
            exact orow2 j (by omega)
        · rw [nth_set (by omega), if_neg (by omega)]
          exact hlate j (by omega)
        · by_cases hj2 : j < k
          · have q2 := hlt j hj2 a ha
            have q3 := hgt b hb
            omega
          · rw [hlate j (by omega)] at ha
            cases ha
      case measure => simp [intOf]; omega
    · have ik : ¬ (k : Int) < (kn : Int) := by omega
      obtain rfl : k = kn := by omega
      go_wp2
      go_ret
      exact ⟨_, _, hs', rfl, hx, okh, by rw [okh.1, hlen], fun j hj => orow j (by rw [← okh.1]; exact hj), hap⟩

def ntS (i : Nat) : List Nat := match i with | 0 => [3] | 1 => [4] | 2 => [5] | 3 => [6] | 4 => [7] | 5 => [8] | 6 => [9, 5, 8] | _ => []

def ntΦ (w T : World) (ao : Option Addr) (n cap : Nat) (ko : Option Addr) (kn kcap : Nat) (gr : Gr) (i : Nat) (t : Nat → Value) (w' : World) : Prop := match i with
  | 0 => t 3 = .pointer (some ⟨w.heap.size, 0, none⟩)
  | 1 => t 4 = .agg #[.slice ao n cap]
  | 2 => ∃ a c, t 5 = .agg #[.slice a n c] ∧ Own 86 2 fS T w' a n c gr.sl
  | 3 => t 6 = .pointer (some ⟨w.heap.size, 1, none⟩)
  | 4 => t 7 = .slice ko kn kcap
  | 5 => ∃ a c hs, t 8 = .slice a kn c ∧ KOwn T w' a kn c hs gr.ks
  | 6 => ∃ a b c, t 9 = .agg #[.slice a n b, c] ∧ t 5 = .agg #[.slice a n b] ∧ t 8 = c
  | _ => True

theorem ntΦ_mono (w T : World) (ao : Option Addr) (n cap : Nat) (ko : Option Addr) (kn kcap : Nat) (gr : Gr) : ∀ i t t' w' x, ntΦ w T ao n cap ko kn kcap gr i t w' → (∀ s ∈ ntS i, t' s = t s) → ntΦ w T ao n cap ko kn kcap gr i t' (plus w' x) := by
  intro i t t' w' x h hs'
  match i with
  | 0 => exact (hs' 3 (by decide)).trans h
  | 1 => exact (hs' 4 (by decide)).trans h
  | 2 => obtain ⟨a, c, e, o⟩ := h; exact ⟨a, c, (hs' 5 (by decide)).trans e, o.plus x⟩
  | 3 => exact (hs' 6 (by decide)).trans h
  | 4 => exact (hs' 7 (by decide)).trans h
  | 5 => obtain ⟨a, c, q, e, o⟩ := h; exact ⟨a, c, q, (hs' 8 (by decide)).trans e, o.ex ⟨x, rfl⟩⟩
  | 6 => obtain ⟨a, b, c, e1, e2, e3⟩ := h; exact ⟨a, b, c, (hs' 9 (by decide)).trans e1, (hs' 5 (by decide)).trans e2, (hs' 8 (by decide)).trans e3⟩
  | i + 7 => trivial

def RetG2 (w : World) (n kn : Nat) (g : Gr) (e : Ending) (w' : World) : Prop := ∃ ao' cap' ko' kcap' hs', e = .returned (.agg #[.slice ao' n cap', .slice ko' kn kcap']) ∧ (∃ y, w' = plus w y) ∧ GrOwn w w' ao' n cap' ko' kn kcap' hs' g ∧ Apart hs'

set_option maxRecDepth 100000 in
set_option maxHeartbeats 4000000 in
theorem ntwin2_calls (ao : Option Addr) (n cap : Nat) (ko : Option Addr) (kn kcap : Nat) (hs : List RH) (gr : Gr) (w : World) (hG : GrAt w ao n ko kn hs gr) :
    Calls Tryz.prog 39 #[.agg #[.slice ao n cap, .slice ko kn kcap]] w fun e w' => RetG2 w n kn gr e w' := by
  have b1 := hG.n1
  have b3 := hG.n2
  go_enter Tryz.func39, Tryz.ntmps39
  go_wp2
  refine region_rel 7 ntS (ntΦ w ((w.alloc (.cells #[.slice ao n cap, .slice ko kn kcap] 27)).alloc (.cells #[.slice none 0 0, .slice none 0 0] 27)) ao n cap ko kn kcap gr) (by kernel_rfl) (by kernel_rfl) rfl (ntΦ_mono w ((w.alloc (.cells #[.slice ao n cap, .slice ko kn kcap] 27)).alloc (.cells #[.slice none 0 0, .slice none 0 0] 27)) ao n cap ko kn kcap gr) ?steps ?fin
  case steps =>
    refine ⟨?_, ?_, ?_, ?_, ?_, ?_, ?_, trivial⟩
    · intro a w' hg hfree hdeep
      obtain ⟨x, rfl⟩ := hg
      have f1_ := hfree 1 (by kernel_rfl)
      simp only [ntΦ, got] at f1_
      simp [go_sem] at f1_
      unfold Oper.wp
      simp [go_sem, execOp, Act.eval, ↓IntWalk.iteOmega, f1_]
      exact ⟨_, rfl, ex_refl _, by simp [ntΦ, upd]⟩
    · intro a w' hg hfree hdeep
      obtain ⟨x, rfl⟩ := hg
      have d0 := hdeep 0 (by kernel_rfl)
      simp only [ntΦ, got] at d0
      unfold Oper.wp
      simp [go_sem, execOp, Act.eval, ↓IntWalk.iteOmega, d0]
      exact ⟨_, rfl, ex_refl _, by simp [ntΦ, upd]⟩
    · intro a w' hg hfree hdeep
      obtain ⟨x, rfl⟩ := hg
      have d1 := hdeep 1 (by kernel_rfl)
      simp only [ntΦ, got] at d1
      unfold Oper.wp
      simp [go_sem, execOp, Act.eval, ↓IntWalk.iteOmega, d1]
      refine (ltwin_calls _ _ _ gr.sl _ (hG.sl.ex sk0) (by omega)).mono ?_
      rintro e w1 ⟨a1, c1, rfl, hw1, o1⟩
      exact ⟨_, rfl, hw1, a1, c1, by simp [upd], o1.base (by rw [plus_size]; omega)⟩
    · intro a w' hg hfree hdeep
      obtain ⟨x, rfl⟩ := hg
      have f1_ := hfree 1 (by kernel_rfl)
      simp only [ntΦ, got] at f1_
      simp [go_sem] at f1_
      unfold Oper.wp
      simp [go_sem, execOp, Act.eval, ↓IntWalk.iteOmega, f1_]
      exact ⟨_, rfl, ex_refl _, by simp [ntΦ, upd]⟩
    · intro a w' hg hfree hdeep
      obtain ⟨x, rfl⟩ := hg
      have d3 := hdeep 3 (by kernel_rfl)
      simp only [ntΦ, got] at d3
      unfold Oper.wp
      simp [go_sem, execOp, Act.eval, ↓IntWalk.iteOmega, d3]
      exact ⟨_, rfl, ex_refl _, by simp [ntΦ, upd]⟩
    · intro a w' hg hfree hdeep
      obtain ⟨x, rfl⟩ := hg
      have d4 := hdeep 4 (by kernel_rfl)
      simp only [ntΦ, got] at d4
      unfold Oper.wp
      simp [go_sem, execOp, Act.eval, ↓IntWalk.iteOmega, d4]
      refine (twinK_calls ao n cap _ _ _ hs gr _ (hG.ex sk0)).mono ?_
      rintro e w1 ⟨k1, c1, hs1, rfl, hw1, o1⟩
      exact ⟨_, rfl, hw1, k1, c1, hs1, by simp [upd], o1.base (by rw [plus_size]; omega)⟩
    · intro a w' hg hfree hdeep
      obtain ⟨x, rfl⟩ := hg
      obtain ⟨a5, c5, e5, _⟩ : ∃ a_ c, got a 5 = .agg #[.slice a_ n c] ∧ _ := hdeep 2 (by kernel_rfl)
      obtain ⟨a8, c8, _, e8, _⟩ : ∃ a_ c hs, got a 8 = .slice a_ kn c ∧ _ := hdeep 5 (by kernel_rfl)
      have g5 := e5
      have g8 := e8
      simp only [got] at g5 g8
      simp at g5 g8
      unfold Oper.wp
      simp [go_sem, execOp, Act.eval, ↓IntWalk.iteOmega, g5, g8]
      exact ⟨_, rfl, ex_refl _, a5, c5, .slice a8 kn c8, by simp [upd], by simp [upd]; exact e5, by simp [upd]; exact e8⟩
  case fin =>
    rintro t w1 hg hΦ o ho
    have h0 := hΦ 0 (by decide)
    have h1 := hΦ 1 (by decide)
    obtain ⟨a5, c5, e5, o5⟩ := hΦ 2 (by decide)
    have h3 := hΦ 3 (by decide)
    have h4 := hΦ 4 (by decide)
    obtain ⟨a8, c8, hs8, e8, o8⟩ := hΦ 5 (by decide)
    obtain ⟨a9, b9, c9, e9, e9a, e9b⟩ := hΦ 6 (by decide)
    simp only [ntΦ] at h0 h1 h3 h4
    rw [e5] at e9a
    rw [e8] at e9b
    cases e9a
    cases e9b
    simp only [List.getElem?_cons_succ, List.getElem?_cons_zero, Option.some.injEq] at ho
    subst ho
    simp only [putAll, List.take_succ_cons, List.take_zero, h0, h1, e5, h3, h4, e8, e9]
    simp only [Act.put]
    simp only [List.setIfInBounds_toArray, List.set_cons_succ, List.set_cons_zero]
    have hgb : w1.heap[w.heap.size + 1]? = some (.cells #[.slice none 0 0, .slice none 0 0] 27) := blk_ex hg (by rw [blk_alloc, if_pos (by simp [go_sem])])
    have k0 := cell_blk (i := 0) hgb rfl
    have k1 := cell_blk (i := 1) hgb rfl
    have z0 := frozen_blk (i := 0) hgb
    have z1 := frozen_blk (i := 1) hgb
    unfold Oper.wp
    simp [go_sem, execOp, Act.eval, k0, k1, z0, z1]
    have o52 := (o5.set_other (i := 0) (u := .slice a5 n c5) hgb (by decide)).set_other (i := 1) (u := .slice a8 kn c8) (blk_set_eq hgb) (by decide)
    have o82 := (o8.set_other (i := 0) (u := .slice a5 n c5) hgb (by decide) (by decide)).set_other (i := 1) (u := .slice a8 kn c8) (blk_set_eq hgb) (by decide) (by decide)
    have rf := blk_set_eq (i := 1) (u := .slice a8 kn c8) (blk_set_eq (i := 0) (u := .slice a5 n c5) hgb)
    have hxf := ex_set_new (i := 1) (u := .slice a8 kn c8) (g := w.heap.size + 1) (ex_set_new (i := 0) (u := .slice a5 n c5) (g := w.heap.size + 1) (ex_trans (show ∃ y, ((w.alloc (.cells #[.slice ao n cap, .slice ko kn kcap] 27)).alloc (.cells #[.slice none 0 0, .slice none 0 0] 27)) = plus w y from sk0) hg) (by omega)) (by omega)
    clear o5 o8 k0 k1 z0 z1 hgb hΦ
    generalize (w1.setCell ⟨w.heap.size + 1, 0, none⟩ (.slice a5 n c5)).setCell ⟨w.heap.size + 1, 1, none⟩ (.slice a8 kn c8) = w9 at *
    have f0 := cell_blk (i := 0) rf rfl
    have f1 := cell_blk (i := 1) rf rfl
    have hB : w.heap.size ≤ ((w.alloc (.cells #[.slice ao n cap, .slice ko kn kcap] 27)).alloc (.cells #[.slice none 0 0, .slice none 0 0] 27)).heap.size := by simp [go_sem]; omega
    go_wp2
    exact bodyPost_ret (v := .agg #[.slice a5 n c5, .slice a8 kn c8]) (by simp [results, Tryz.results39, go_sem, f0, f1]) rfl ⟨a5, c5, a8, c8, hs8, rfl, hxf, (GrOwn.mk2 (o82.base hB) (o52.base hB)), o82.apart⟩

theorem ntwin_calls (ao : Option Addr) (n cap : Nat) (ko : Option Addr) (kn kcap : Nat) (hs : List RH) (gr : Gr) (w : World) (hG : GrAt w ao n ko kn hs gr) :
    Calls Tryz.prog 39 #[.agg #[.slice ao n cap, .slice ko kn kcap]] w fun e w' => RetG1 w n kn gr e w' :=
  (ntwin2_calls ao n cap ko kn kcap hs gr w hG).mono fun e w' ⟨a, c, k, kc, hs1, h1, h2, h3, _⟩ => ⟨a, c, k, kc, hs1, h1, h2, h3⟩

end

/- Who reaches whom, by a closure that calls itself, with a map of what was seen. -/
section

open Go.Maps Go.RowKit Go.ChangeShapes Go.WideShapes Go.ChangeAt

set_option linter.unusedSimpArgs false

set_option linter.unusedVariables false

attribute [local go_sem] plus_size plus_drew dn_set dn_alloc dn_plus plus_dn cell_plus frozen_plus set_plus cell_alloc frozen_alloc set_alloc

theorem lawI : Keyed Tryz.prog 3 := int_keyed Tryz.underlying3

theorem zeroU (w : World) : (zeroValue 175).run Tryz.prog w = .ok (.agg #[]) w := by kernel_rfl

theorem key_nat {k : Nat} (hk : k ≤ 1000) : keyOf Tryz.prog 3 (.int .i64 (k : Int)) = some (.int .i64 (k : Int)) := by
  refine keyOf_int_mk Tryz.underlying3 ?_
  exact WalkArith.wf_i64 (by omega)

def SetAt (w : World) (b : Nat) (o : List Bool) : Prop := ∃ D : DataW Unit, w.ownsMap Tryz.prog 3 (unitElem (H := Unit)) b (cnt o) D ∧ ∀ k, k < o.length → Maps.has D (.int .i64 (k : Int)) = nth false o k

theorem SetAt.map {w : World} {b : Nat} {o : List Bool} (h : SetAt w b o) : ∃ es c, w.heap[b]? = some (.map es c) := by
  obtain ⟨D, ⟨es, c, hb, _⟩, _⟩ := h
  exact ⟨es, c, hb⟩

theorem SetAt.kept {w w' : World} {b : Nat} {o : List Bool} (h : SetAt w b o) (hg : w.grownBy w' none) : SetAt w' b o := by
  obtain ⟨D, ho, hD⟩ := h
  exact ⟨D, ho.kept hg (by simp), hD⟩

theorem grown_ex {w w' : World} (r : Option Nat) (h : ∃ y, w' = plus w y) : w.grownBy w' r := by
  obtain ⟨y, rfl⟩ := h
  exact ⟨rfl, rfl, rfl, by rw [plus_size]; omega, fun k hk _ => plus_block w y k hk⟩

theorem ex_grown {T w w' : World} {b : Nat} (h : ∃ y, w = plus T y) (hg : w.grownBy w' (some b)) (hb : T.heap.size ≤ b) : ∃ y, w' = plus T y := by
  obtain ⟨y, rfl⟩ := h
  apply below_plus
  have hp := plus_below T y
  refine ⟨hg.os.trans hp.os, hg.tape.trans hp.tape, hg.output.trans hp.output, Nat.le_trans hp.size hg.size, fun n hn => ?_⟩
  rw [hg.block n (by rw [plus_size]; omega) (by intro e; cases e; omega)]
  exact hp.block n hn

section

variable {w w' : World} {b : Nat} {es : Array MapEntry} {c : Nat}

theorem blk_grown {g : Nat} {cs : Array Value} {t : TypeId} (hg : w.grownBy w' (some b)) (hm : ∃ es c, w.heap[b]? = some (.map es c)) (h : w.heap[g]? = some (.cells cs t)) : w'.heap[g]? = some (.cells cs t) := by
  obtain ⟨es, c, hm⟩ := hm
  rw [hg.block g (blk_lt h) ?_]
  · exact h
  · intro e
    cases e
    rw [hm] at h
    cases h

theorem lay_grown {α : Type} {f : α → List Value} {ao : Option Addr} {n : Nat} {l : List α} (hg : w.grownBy w' (some b)) (hm : ∃ es c, w.heap[b]? = some (.map es c)) (h : Lay f w ao n l) : Lay f w' ao n l := by
  refine ⟨h.len, h.at0.imp id ?_⟩
  rintro ⟨g, off, e, hl, hc⟩
  refine ⟨g, off, e, Nat.lt_of_lt_of_le hl hg.size, fun j u hu => ?_⟩
  have h1 := hc j u hu
  obtain ⟨es, c, hm⟩ := hm
  have hne : some g ≠ some b := by
    intro e2
    cases e2
    simp [World.cell?, hm] at h1
  exact (World.cell?_of_block (w := w) (hg.block g hl hne)).trans h1

theorem gr_grown {ao ko : Option Addr} {n kn : Nat} {hs : List RH} {g : Gr} (hg : w.grownBy w' (some b)) (hm : ∃ es c, w.heap[b]? = some (.map es c)) (h : GrAt w ao n ko kn hs g) : GrAt w' ao n ko kn hs g :=
  ⟨lay_grown hg hm h.sl, lay_grown hg hm h.kh, h.len, fun k hk => lay_grown hg hm (h.row k hk), h.n1, h.n2, h.n3, h.n4, h.n5⟩

end

structure Env (w : World) (p3 p4 p1 b : Nat) (ao : Option Addr) (n cap : Nat) (ko : Option Addr) (kn kcap : Nat) (hs : List RH) (gr : Gr) : Prop where
  seen : w.heap[p3]? = some (.cells #[.map (some b)] 216)
  self : w.heap[p4]? = some (.cells #[.func (.func 169) #[] #[.pointer (some ⟨p3, 0, none⟩), .pointer (some ⟨p4, 0, none⟩), .pointer (some ⟨p1, 0, none⟩)]] 177)
  box : w.heap[p1]? = some (.cells #[.slice ao n cap, .slice ko kn kcap] 27)
  gr : GrAt w ao n ko kn hs gr

section

variable {w w' : World} {p3 p4 p1 b : Nat} {ao : Option Addr} {n cap : Nat} {ko : Option Addr} {kn kcap : Nat} {hs : List RH} {gr : Gr}

theorem Env.grown (h : Env w p3 p4 p1 b ao n cap ko kn kcap hs gr) (hg : w.grownBy w' (some b)) (hm : ∃ es c, w.heap[b]? = some (.map es c)) : Env w' p3 p4 p1 b ao n cap ko kn kcap hs gr :=
  ⟨blk_grown hg hm h.seen, blk_grown hg hm h.self, blk_grown hg hm h.box, gr_grown hg hm h.gr⟩

end

def KHeld (gr : Gr) : Prop := gr.ks.length = gr.sl.length ∧ ∀ i, i < gr.ks.length → ∀ x, x ∈ nth [] gr.ks i → heldIn gr.sl x.1 x.2 = true

theorem KHeld.of (gr : Gr) (h2 : gr.ks.length = gr.sl.length) (h3 : rowsOk gr = true) : KHeld gr := ⟨h2, fun i hi x hx => (rows_at h3 hi).2.2 x hx⟩

structure Seen (gr : Gr) (s : Nat) (o o' : List Bool) : Prop where
  le : Le o o'
  cl : ∀ i, nth false o' i = true → nth false o i = false → ∀ c, c ∈ kof gr.ks i → c ≠ s ∧ nth false o' c = true

theorem Seen.refl (gr : Gr) (s : Nat) (o : List Bool) : Seen gr s o o := ⟨le_refl' o, fun i h1 h2 => by rw [h1] at h2; cases h2⟩

theorem Seen.step {gr : Gr} {s h : Nat} {o o1 o2 : List Bool} (a : Seen gr s o o1) (hl : h < o1.length) (b : Seen gr s (o1.set h true) o2) (hk : ∀ c, c ∈ kof gr.ks h → c ≠ s ∧ nth false o2 c = true) : Seen gr s o o2 := by
  have l2 : Le o1 o2 := le_trans' (le_set o1 h) b.le
  refine ⟨le_trans' a.le l2, fun i h1 h2 c hc => ?_⟩
  by_cases e : i = h
  · subst e
    exact hk c hc
  cases e1 : nth false o1 i
  · exact b.cl i h1 (by rw [nth_set' hl, if_neg e]; exact e1) c hc
  · have := a.cl i e1 h2 c hc
    exact ⟨this.1, l2.2 c this.2⟩

structure Tells (gr : Gr) (fl : List (Int × Int)) (s : Nat) (o : List Bool) (r : Bool) (o' : List Bool) : Prop where
  yes : r = true → ∃ x, x ∈ fl ∧ Reach (kof gr.ks) x.1.toNat s
  no : r = false → Seen gr s o o' ∧ ∀ x, x ∈ fl → x.1.toNat ≠ s ∧ nth false o' x.1.toNat = true

def RetR (w : World) (b : Nat) (gr : Gr) (fl : List (Int × Int)) (s : Nat) (o : List Bool) (e : Ending) (w' : World) : Prop := ∃ r o', e = .returned (.bool r) ∧ w.grownBy w' (some b) ∧ SetAt w' b o' ∧ o'.length = o.length ∧ Tells gr fl s o r o'

def r9S (i : Nat) : List Nat := match i with | 0 => [33] | 1 => [34] | 2 => [35] | 3 => [36] | 4 => [37] | 5 => [38] | 6 => [39] | 7 => [40] | _ => []

def r9Φ (fv : Value) (p1 q kg kf kn kcap h : Nat) (rv hv : Value) (i : Nat) (t : Nat → Value) (w' : World) : Prop := match i with
  | 0 => t 33 = fv
  | 1 => t 34 = .pointer (some ⟨p1, 1, none⟩)
  | 2 => t 35 = .slice (some ⟨kg, kf, none⟩) kn kcap
  | 3 => t 36 = .pointer (some ⟨q, 0, none⟩)
  | 4 => t 37 = .int .i64 (h : Int)
  | 5 => t 38 = .pointer (some ⟨kg, kf + h, none⟩)
  | 6 => t 39 = rv
  | 7 => t 40 = hv
  | _ => True

theorem r9Φ_mono (fv : Value) (p1 q kg kf kn kcap h : Nat) (rv hv : Value) : ∀ i t t' w' x, r9Φ fv p1 q kg kf kn kcap h rv hv i t w' → (∀ s ∈ r9S i, t' s = t s) → r9Φ fv p1 q kg kf kn kcap h rv hv i t' (plus w' x) := by
  intro i t t' w' x h hs'
  match i with
  | 0 => exact (hs' 33 (by decide)).trans h
  | 1 => exact (hs' 34 (by decide)).trans h
  | 2 => exact (hs' 35 (by decide)).trans h
  | 3 => exact (hs' 36 (by decide)).trans h
  | 4 => exact (hs' 37 (by decide)).trans h
  | 5 => exact (hs' 38 (by decide)).trans h
  | 6 => exact (hs' 39 (by decide)).trans h
  | 7 => exact (hs' 40 (by decide)).trans h
  | i + 8 => trivial

set_option maxRecDepth 100000 in
set_option maxHeartbeats 8000000 in
theorem reach1 (p3 p4 p1 b : Nat) (ao : Option Addr) (n cap : Nat) (ko : Option Addr) (kn kcap : Nat) (hs0 : List RH) (gr : Gr) (hK : KHeld gr) (s : Nat) (g : Int) (hs : heldIn gr.sl s g = true) : ∀ (m : Nat) (o : List Bool) (fo : Option Addr) (fn fcap : Nat) (fl : List (Int × Int)) (w : World), o.length = kn → kn - cnt o = m → Env w p3 p4 p1 b ao n cap ko kn kcap hs0 gr → SetAt w b o → Lay f2 w fo fn fl → fn ≤ 1000 → (∀ x, x ∈ fl → heldIn gr.sl x.1 x.2 = true) →
    Calls Tryz.prog 169 #[.slice fo fn fcap, .agg #[.int .i64 (s : Int), .int .i64 g], .pointer (some ⟨p3, 0, none⟩), .pointer (some ⟨p4, 0, none⟩), .pointer (some ⟨p1, 0, none⟩)] w fun e w' => RetR w b gr fl s o e w' := by
  intro m
  induction m using Nat.strongRecOn with
  | _ m ih =>
  intro o fo fn fcap fl w hol hm hE hS hL hfn hfl
  have hlen := hE.gr.kl
  have hkh := hE.gr.kh.len
  have bkn := hE.gr.n2
  go_enter Tryz.func169, Tryz.ntmps169
  go_wp2
  go_loopw [14] (fun i_ wr => ∃ (k : Nat) (o' : List Bool), k ≤ fn ∧ i_ = .int .i64 k ∧ w.grownBy wr (some b) ∧ Env wr p3 p4 p1 b ao n cap ko kn kcap hs0 gr ∧ SetAt wr b o' ∧ Lay f2 wr fo fn fl ∧ wr.heap[w.heap.size]? = some (.cells #[.int .i64 (s : Int), .int .i64 g] 32) ∧ Seen gr s o o' ∧ (∀ j, j < k → (nth (0, 0) fl j).1.toNat ≠ s ∧ nth false o' (nth (0, 0) fl j).1.toNat = true)) (fun i_ _ => fn - (intOf i_).toNat)
  case atStart => exact ⟨0, o, Nat.zero_le _, rfl, World.grownBy_alloc _ _ _, hE.grown (World.grownBy_alloc _ _ _) hS.map, hS.kept (World.grownBy_alloc _ _ _), lay_grown (World.grownBy_alloc _ _ _) hS.map hL, by rw [blk_alloc, if_pos rfl], Seen.refl _ _ _, fun j hj => by omega⟩
  case round =>
    clear hE hS hL
    obtain ⟨k, o', hk, rfl, hg, hE, hS, hL, hq, hseen, hdone⟩ := hrel
    have hol' : o'.length = kn := hseen.le.1.symm.trans hol
    by_cases hkl : k < fn
    rotate_left
    · have ik : ¬ (k : Int) < (fn : Int) := by omega
      obtain rfl : k = fn := by omega
      go_wp2
      go_ret
      refine ⟨false, o', rfl, hg, hS, by omega, fun h => (by cases h), fun _ => ⟨hseen, fun x hx => ?_⟩⟩
      obtain ⟨j, hj, rfl⟩ := List.getElem_of_mem hx
      have := hdone j (by rw [← hL.len]; exact hj)
      rwa [nth_eq hj] at this
    have ik : (k : Int) < (fn : Int) := by omega
    have hxl := hfl _ (nth_mem (d := (0, 0)) (k := k) (by rw [hL.len]; exact hkl))
    have hxm := nth_mem (d := ((0, 0) : Int × Int)) (l := fl) (k := k) (by rw [hL.len]; exact hkl)
    obtain ⟨fg, ff, rfl, hfg, hfc⟩ := hL.some (by omega)
    obtain ⟨c0, c1⟩ := cell2 hL.len hfc hkl
    generalize hxe : nth ((0, 0) : Int × Int) fl k = x at *
    obtain ⟨xs, xg⟩ := x
    have hlt := held_lt hxl
    simp only at hlt hxl c0 c1
    obtain ⟨h, rfl⟩ : ∃ h : Nat, xs = (h : Int) := ⟨xs.toNat, by omega⟩
    rw [Int.toNat_natCast] at hlt
    have hhk : h < kn := by rw [← hlen, hK.1]; exact hlt.1
    have q0 := cell_blk (i := 0) hq rfl
    have q1 := cell_blk (i := 1) hq rfl
    have lq := blk_lt hq
    have s0 := cell_blk (i := 0) hE.seen rfl
    have ls := blk_lt hE.seen
    by_cases he : (h : Int) = (s : Int)
    · have hgg : xg = g := by
        have h1 := held_spec.1 hxl
        have h2 := held_spec.1 hs
        rw [he] at h1
        exact h1.2.2.symm.trans h2.2.2
      subst hgg
      obtain rfl : h = s := by omega
      go_wp2
      go_ret
      exact ⟨true, o', rfl, hg.trans (World.grownBy_alloc _ _ _), hS.kept (World.grownBy_alloc _ _ _), by omega, fun _ => ⟨_, hxm, by rw [Int.toNat_natCast]; exact reach_refl _⟩, fun h => (by cases h)⟩
    have de : ((h : Int) == (s : Int)) = false := by rw [beq_eq_false_iff_ne]; exact he
    obtain ⟨D, hown, hD⟩ := id hS
    have hhas := hD h (by omega)
    have hkey := key_nat (k := h) (by omega)
    cases hmk : nth false o' h
    rotate_left
    · rw [hmk] at hhas
      go_wp2_with (at_lookup; refine wpList_lookup_own_unit _ rfl _ _ 216 rfl 3 175 lawI Tryz.underlying216 (zeroU _) b _ _ rfl (hown.alloc _) _ _ rfl hkey ?_; rw [hhas])
      go_roundw
      case rel =>
        refine ⟨k + 1, o', by omega, by go_num, (hg.trans (World.grownBy_alloc _ _ _)).trans (World.grownBy_alloc _ _ _), (hE.grown (World.grownBy_alloc _ _ _) hS.map).grown (World.grownBy_alloc _ _ _) (hS.kept (World.grownBy_alloc _ _ _)).map, (hS.kept (World.grownBy_alloc _ _ _)).kept (World.grownBy_alloc _ _ _), (hL.ex sk0), blk_ex sk0 hq, hseen, upto_succ hdone ?_⟩
        rw [hxe]
        simp only [Int.toNat_natCast]
        exact ⟨by omega, hmk⟩
      case measure => simp [intOf]; omega
    rw [hmk] at hhas
    have hcn : cnt o' < cnt (o'.set h true) := cnt_lt h (le_set o' h) hmk (by rw [nth_set' (by omega), if_pos rfl])
    have hcl := cnt_len (o'.set h true)
    have hcm := cnt_le hseen.le
    rw [List.length_set] at hcl
    go_upto_region 9 with (first | (at_lookup; refine wpList_lookup_own_unit _ rfl _ _ 216 rfl 3 175 lawI Tryz.underlying216 (zeroU _) b _ _ rfl (hown.alloc _) _ _ rfl hkey ?_; rw [hhas]) | (at_mapUpdate; refine wpList_mapUpdate_own _ rfl _ _ _ 216 rfl 3 175 lawI Tryz.underlying216 (unitElem (H := Unit)) b (cnt o') _ rfl ((hown.alloc _).alloc _) (by unfold maxLen; omega) _ _ _ rfl rfl hkey _ [] unitElem_mk ?_; intro w3 hown3 hgr3))
    have hg1 : wr.grownBy ((wr.alloc (.cells #[.int .i64 (h : Int), .int .i64 xg] 32)).alloc (.cells #[] 175)) (some b) := (World.grownBy_alloc _ _ _).trans (World.grownBy_alloc _ _ _)
    have hm1 : ∃ es c, ((wr.alloc (.cells #[.int .i64 (h : Int), .int .i64 xg] 32)).alloc (.cells #[] 175)).heap[b]? = some (.map es c) := ((hS.kept (World.grownBy_alloc _ _ _)).kept (World.grownBy_alloc _ _ _)).map
    have hb3 := blk_grown hgr3 hm1 (g := wr.heap.size) (cs := #[.int .i64 (h : Int), .int .i64 xg]) (t := 32) (by rw [blk_alloc, if_neg (by simp), blk_alloc, if_pos rfl])
    have hg3 := hg1.trans hgr3
    have hE3 := hE.grown hg3 hS.map
    have hL3 := lay_grown hg3 hS.map hL
    have hq3 := blk_grown hg3 hS.map hq
    have hS3 : SetAt w3 b (o'.set h true) := by
      refine ⟨_, hown3.mono (by omega), fun j hj => ?_⟩
      rw [List.length_set] at hj
      rw [nth_set' (by omega)]
      by_cases ej : j = h
      · subst ej
        rw [if_pos rfl]
        exact Maps.has_put_same (k := .int .i64 (j : Int)) hown.isMap True.intro _
      · rw [if_neg ej, Maps.has_put_other (by intro e9; injection e9 with _ e9; omega)]
        exact hD j (by omega)
    have hgw := hg.trans hg3
    clear hgr3 hg1 hm1 hown3 hown hD hE hS hL hq q0 q1 lq s0 ls c0 c1 hfc hfg hg hg3
    have q0 := cell_blk (i := 0) hq3 rfl
    have q1 := cell_blk (i := 1) hq3 rfl
    have lq := blk_lt hq3
    have h0 := cell_blk (i := 0) hb3 rfl
    have lh := blk_lt hb3
    have s4 := cell_blk (i := 0) hE3.self rfl
    have l4 := blk_lt hE3.self
    have b1 := cell_blk (i := 1) hE3.box rfl
    have lb := blk_lt hE3.box
    obtain ⟨kg, kf, rfl, hkg, hkc⟩ := hE3.gr.kh.some (by omega)
    have cr := cellR hE3.gr.kh.len hkc hhk
    have ih1 : (h : Int) < (kn : Int) := by omega
    have hrow := hE3.gr.row h (by omega)
    have hrn := hE3.gr.n3 h (by omega)
    have hrh : ∀ x, x ∈ nth [] gr.ks h → heldIn gr.sl x.1 x.2 = true := hK.2 h (by omega)
    simp only [Act.put, List.setIfInBounds_toArray, List.set_cons_succ, List.set_cons_zero]
    refine region_rels 8 r9S (r9Φ (.func (.func 169) #[] #[.pointer (some ⟨p3, 0, none⟩), .pointer (some ⟨p4, 0, none⟩), .pointer (some ⟨p1, 0, none⟩)]) p1 wr.heap.size kg kf kn kcap h (.slice (nth dRH hs0 h).ao (nth dRH hs0 h).n (nth dRH hs0 h).cap) (.agg #[.int .i64 (s : Int), .int .i64 g])) (by kernel_rfl) (by kernel_rfl) (by decide) (r9Φ_mono (.func (.func 169) #[] #[.pointer (some ⟨p3, 0, none⟩), .pointer (some ⟨p4, 0, none⟩), .pointer (some ⟨p1, 0, none⟩)]) p1 wr.heap.size kg kf kn kcap h (.slice (nth dRH hs0 h).ao (nth dRH hs0 h).n (nth dRH hs0 h).cap) (.agg #[.int .i64 (s : Int), .int .i64 g])) ?steps ?fin
    case steps =>
      refine ⟨?_, ?_, ?_, ?_, ?_, ?_, ?_, ?_, trivial⟩
      · intro a w' hg hfree hdeep
        obtain ⟨x, rfl⟩ := hg
        have f3_ := hfree 3 (by kernel_rfl)
        simp only [r9Φ, got] at f3_
        simp [go_sem] at f3_
        unfold Oper.wp
        simp [go_sem, execOp, Act.eval, ↓IntWalk.iteOmega, f3_, s4]
        exact ⟨_, rfl, ex_refl _, by simp [r9Φ, upd]⟩
      · intro a w' hg hfree hdeep
        obtain ⟨x, rfl⟩ := hg
        have f4_ := hfree 4 (by kernel_rfl)
        simp only [r9Φ, got] at f4_
        simp [go_sem] at f4_
        unfold Oper.wp
        simp [go_sem, execOp, Act.eval, ↓IntWalk.iteOmega, f4_]
        exact ⟨_, rfl, ex_refl _, by simp [r9Φ, upd]⟩
      · intro a w' hg hfree hdeep
        obtain ⟨x, rfl⟩ := hg
        have d1 := hdeep 1 (by kernel_rfl)
        simp only [r9Φ, got] at d1
        unfold Oper.wp
        simp [go_sem, execOp, Act.eval, ↓IntWalk.iteOmega, d1, b1]
        exact ⟨_, rfl, ex_refl _, by simp [r9Φ, upd]⟩
      · intro a w' hg hfree hdeep
        obtain ⟨x, rfl⟩ := hg
        have f9_ := hfree 9 (by kernel_rfl)
        simp only [r9Φ, got] at f9_
        simp [go_sem] at f9_
        unfold Oper.wp
        simp [go_sem, execOp, Act.eval, ↓IntWalk.iteOmega, f9_]
        exact ⟨_, rfl, ex_refl _, by simp [r9Φ, upd]⟩
      · intro a w' hg hfree hdeep
        obtain ⟨x, rfl⟩ := hg
        have d3 := hdeep 3 (by kernel_rfl)
        simp only [r9Φ, got] at d3
        unfold Oper.wp
        simp [go_sem, execOp, Act.eval, ↓IntWalk.iteOmega, d3, h0]
        exact ⟨_, rfl, ex_refl _, by simp [r9Φ, upd]⟩
      · intro a w' hg hfree hdeep
        obtain ⟨x, rfl⟩ := hg
        have d2 := hdeep 2 (by kernel_rfl)
        have d4 := hdeep 4 (by kernel_rfl)
        simp only [r9Φ, got] at d2 d4
        unfold Oper.wp
        simp [go_sem, execOp, Act.eval, ↓IntWalk.iteOmega, d2, d4, ih1]
        exact ⟨_, rfl, ex_refl _, by simp [r9Φ, upd]⟩
      · intro a w' hg hfree hdeep
        obtain ⟨x, rfl⟩ := hg
        have d5 := hdeep 5 (by kernel_rfl)
        simp only [r9Φ, got] at d5
        unfold Oper.wp
        simp [go_sem, execOp, Act.eval, ↓IntWalk.iteOmega, d5, cr]
        exact ⟨_, rfl, ex_refl _, by simp [r9Φ, upd]⟩
      · intro a w' hg hfree hdeep
        obtain ⟨x, rfl⟩ := hg
        have f6_ := hfree 6 (by kernel_rfl)
        simp only [r9Φ, got] at f6_
        simp [go_sem] at f6_
        unfold Oper.wp
        simp [go_sem, execOp, Act.eval, ↓IntWalk.iteOmega, f6_, q0, q1]
        exact ⟨_, rfl, ex_refl _, by simp [r9Φ, upd]⟩
    case fin =>
      rintro t w' ⟨x2, rfl⟩ hΦ
      have r0 := hΦ 0 (by decide)
      have r1 := hΦ 1 (by decide)
      have r2 := hΦ 2 (by decide)
      have r3 := hΦ 3 (by decide)
      have r4 := hΦ 4 (by decide)
      have r5 := hΦ 5 (by decide)
      have r6 := hΦ 6 (by decide)
      have r7 := hΦ 7 (by decide)
      simp only [r9Φ] at r0 r1 r2 r3 r4 r5 r6 r7
      simp only [putAll, List.take_succ_cons, List.take_zero, List.drop_succ_cons, List.drop_zero, r0, r1, r2, r3, r4, r5, r6, r7]
      simp only [Act.put]
      simp only [List.setIfInBounds_toArray, List.set_cons_succ, List.set_cons_zero]
      clear hΦ r0 r1 r2 r3 r4 r5 r6 r7
      go_wp2_with (go_at_call 169; refine (ih (kn - cnt (o'.set h true)) (by omega) (o'.set h true) _ _ _ (nth [] gr.ks h) _ (by rw [List.length_set]; exact hol') rfl (hE3.grown (grown_ex _ ⟨_, rfl⟩) hS3.map) (hS3.kept (grown_ex _ ⟨_, rfl⟩)) (hrow.ex ⟨_, rfl⟩) hrn hrh).mono ?_; rintro e w4 ⟨r, o2, rfl, hg4, hS4, hl4, hT⟩)
      · obtain rfl : r = true := by assumption
        go_ret
        obtain ⟨y, hy, hr⟩ := hT.yes rfl
        exact ⟨true, o2, rfl, (hgw.trans (grown_ex _ ⟨_, rfl⟩)).trans hg4, hS4, by rw [hl4, List.length_set]; omega, fun _ => ⟨_, hxm, reach_step (by rw [Int.toNat_natCast]; exact kof_mem.2 ⟨y, hy, rfl⟩) hr⟩, fun h => (by cases h)⟩
      · obtain rfl : r = false := by first | assumption | (cases r <;> simp_all)
        obtain ⟨hs2, hk2⟩ := hT.no rfl
        have hcl2 := hs2.le
        go_roundw
        case rel =>
          refine ⟨k + 1, o2, by omega, by go_num, (hgw.trans (grown_ex _ ⟨_, rfl⟩)).trans hg4, (hE3.grown (grown_ex _ ⟨_, rfl⟩) hS3.map).grown hg4 (hS3.kept (grown_ex _ ⟨_, rfl⟩)).map, hS4, lay_grown hg4 (hS3.kept (grown_ex _ ⟨_, rfl⟩)).map (hL3.ex ⟨_, rfl⟩), blk_grown hg4 (hS3.kept (grown_ex _ ⟨_, rfl⟩)).map (blk_ex ⟨_, rfl⟩ hq3), hseen.step (by omega) hs2 (fun c hc => ?_), fun j hj => ?_⟩
          · obtain ⟨y, hy, rfl⟩ := kof_mem.1 hc
            exact hk2 y hy
          · by_cases ej : j = k
            · subst ej
              rw [hxe]
              simp only [Int.toNat_natCast]
              exact ⟨by omega, hcl2.2 h (by rw [nth_set' (by omega), if_pos rfl])⟩
            · have := hdone j (by omega)
              exact ⟨this.1, hcl2.2 _ ((le_set o' h).2 _ this.2)⟩
        case measure => simp [intOf]; omega

end

/- What nodes.reacher and loops give. -/
section

open Go.Maps Go.RowKit Go.ChangeShapes Go.WideShapes Go.ChangeAt

set_option linter.unusedSimpArgs false

set_option linter.unusedVariables false

attribute [local go_sem] plus_size plus_drew dn_set dn_alloc dn_plus plus_dn cell_plus frozen_plus set_plus cell_alloc frozen_alloc set_alloc

theorem KHeld.lt {gr : Gr} (h : KHeld gr) : ∀ i, i < gr.ks.length → ∀ c, c ∈ kof gr.ks i → c < gr.ks.length := by
  intro i hi c hc
  obtain ⟨x, hx, rfl⟩ := kof_mem.1 hc
  rw [h.1]
  exact (held_lt (h.2 i hi x hx)).1

theorem KHeld.reach {gr : Gr} (h : KHeld gr) {a b : Int × Int} (ha : heldIn gr.sl a.1 a.2 = true) : reachB gr a b = true ↔ Reach (kof gr.ks) a.1.toNat b.1.toNat :=
  below_spec h.lt (by rw [h.1]; exact (held_lt ha).1) _

def anyR (gr : Gr) (fl : List (Int × Int)) (h : Int × Int) : Bool := fl.any fun x => reachB gr x h

theorem anyR_iff {gr : Gr} (hK : KHeld gr) {fl : List (Int × Int)} {h : Int × Int} (hf : ∀ x, x ∈ fl → heldIn gr.sl x.1 x.2 = true) : anyR gr fl h = true ↔ ∃ x, x ∈ fl ∧ Reach (kof gr.ks) x.1.toNat h.1.toNat := by
  rw [anyR, List.any_eq_true]
  exact ⟨fun ⟨x, hx, hr⟩ => ⟨x, hx, (hK.reach (hf x hx)).1 hr⟩, fun ⟨x, hx, hr⟩ => ⟨x, hx, (hK.reach (hf x hx)).2 hr⟩⟩

theorem Tells.is {gr : Gr} {fl : List (Int × Int)} {s : Nat} {g : Int} {r : Bool} {m : Nat} {o' : List Bool} (hK : KHeld gr) (hf : ∀ x, x ∈ fl → heldIn gr.sl x.1 x.2 = true) (h : Tells gr fl s (List.replicate m false) r o') : r = anyR gr fl ((s : Int), g) := by
  cases r with
  | true =>
    obtain ⟨x, hx, hr⟩ := h.yes rfl
    exact ((anyR_iff hK hf).2 ⟨x, hx, by simpa using hr⟩).symm
  | false =>
    cases hA : anyR gr fl ((s : Int), g) with
    | false => rfl
    | true =>
      exfalso
      obtain ⟨x, hx, hr⟩ := (anyR_iff hK hf).1 hA
      simp only [Int.toNat_natCast] at hr
      obtain ⟨hs, hn⟩ := h.no rfl
      have := reach_closed (K := kof gr.ks) (P := fun i => i ≠ s ∧ nth false o' i = true) (fun i c hi hc => hs.cl i hi.2 (nth_replicate m i) c hc) (hn x hx) hr
      exact this.1 rfl

theorem run_clear_map {w : World} {b : Nat} (hm : ∃ es c, w.heap[b]? = some (.map es c)) (m : Nat) : ∃ w', (∀ ty, (Builtin.clear_ #[216] ty #[.map (some b)]).run Tryz.prog w = .ok (.tuple #[]) w') ∧ w.grownBy w' (some b) ∧ SetAt w' b (List.replicate m false) := by
  obtain ⟨es, c, hb⟩ := hm
  refine ⟨ChangeMaps.setBlock w b (.map #[] c), fun ty => ?_, ⟨rfl, rfl, rfl, by simp [ChangeMaps.setBlock], fun i _ hi => ChangeMaps.heap_setBlock_other hb _ (fun e => hi (by rw [e]))⟩, .map [], ⟨#[], c, ChangeMaps.heap_setBlock_same hb _, ⟨by simp, MapKept.stamped_empty c, by simp⟩, Nat.zero_le _, rfl⟩, fun k hk => ?_⟩
  · simp [Builtin.clear_, run_underlying Tryz.underlying216, MapKept.run_getObj_map hb, MapKept.run_setObj_map _ hb, Result.andThen, ChangeMaps.setBlock]
  · rw [nth_replicate]
    rfl

set_option maxRecDepth 100000 in
set_option maxHeartbeats 4000000 in
theorem reach2 (p3 p4 p1 b : Nat) (ao : Option Addr) (n cap : Nat) (ko : Option Addr) (kn kcap : Nat) (hs : List RH) (gr : Gr) (hK : KHeld gr) (s : Nat) (g : Int) (hh : heldIn gr.sl s g = true) (fo : Option Addr) (fn fcap : Nat) (fl : List (Int × Int)) (w : World) (hE : Env w p3 p4 p1 b ao n cap ko kn kcap hs gr) (hm : ∃ es c, w.heap[b]? = some (.map es c)) (hL : Lay f2 w fo fn fl) (hfn : fn ≤ 1000) (hfl : ∀ x, x ∈ fl → heldIn gr.sl x.1 x.2 = true) :
    Calls Tryz.prog 170 #[.slice fo fn fcap, .agg #[.int .i64 (s : Int), .int .i64 g], .pointer (some ⟨p3, 0, none⟩), .pointer (some ⟨p4, 0, none⟩)] w fun e w' => e = .returned (.bool (anyR gr fl ((s : Int), g))) ∧ w.grownBy w' (some b) ∧ ∃ es c, w'.heap[b]? = some (.map es c) := by
  have hg0 : w.grownBy (w.alloc (.cells #[.int .i64 (s : Int), .int .i64 g] 32)) (some b) := World.grownBy_alloc _ _ _
  have hE1 := hE.grown hg0 hm
  have hm1 : ∃ es c, (w.alloc (.cells #[.int .i64 (s : Int), .int .i64 g] 32)).heap[b]? = some (.map es c) := by
    obtain ⟨es, c, h⟩ := hm
    exact ⟨es, c, by rw [blk_alloc, if_neg (Nat.ne_of_lt (blk_lt h))]; exact h⟩
  obtain ⟨w2, hcl, hg2, hS2⟩ := run_clear_map hm1 kn
  have hE2 := hE1.grown hg2 hm1
  have hL2 := lay_grown (hg0.trans hg2) hm hL
  have hq2 := blk_grown hg2 hm1 (g := w.heap.size) (cs := #[.int .i64 (s : Int), .int .i64 g]) (t := 32) (by rw [blk_alloc, if_pos rfl])
  have s0 := cell_blk (i := 0) hE.seen rfl
  have ls := blk_lt hE.seen
  have s4 := cell_blk (i := 0) hE2.self rfl
  have q0 := cell_blk (i := 0) hq2 rfl
  have q1 := cell_blk (i := 1) hq2 rfl
  have hcn : cnt (List.replicate kn false) = 0 := by simp [cnt, List.countP_replicate]
  go_enter Tryz.func170, Tryz.ntmps170
  go_wp2_with (go_at_call 169; refine (reach1 p3 p4 p1 b ao n cap ko kn kcap hs gr hK s g hh kn (List.replicate kn false) _ _ _ fl _ (by simp) (by rw [hcn]; rfl) hE2 hS2 hL2 hfn hfl).mono ?_; rintro e w4 ⟨r, o2, rfl, hg4, hS4, hl4, hT⟩)
  go_ret
  exact ⟨by rw [← hT.is (g := g) hK hfl]; rfl, (hg0.trans hg2).trans hg4, hS4.map⟩

def RetF (w : World) (ao : Option Addr) (n cap : Nat) (ko : Option Addr) (kn kcap : Nat) (hs : List RH) (gr : Gr) (e : Ending) (w' : World) : Prop := ∃ p3 p4 p1 b, e = .returned (.func (.func 170) #[] #[.pointer (some ⟨p3, 0, none⟩), .pointer (some ⟨p4, 0, none⟩)]) ∧ (∃ y, w' = plus w y) ∧ Env w' p3 p4 p1 b ao n cap ko kn kcap hs gr ∧ w.heap.size ≤ b ∧ ∃ es c, w'.heap[b]? = some (.map es c)

set_option maxRecDepth 100000 in
set_option maxHeartbeats 4000000 in
theorem reacher_calls (ao : Option Addr) (n cap : Nat) (ko : Option Addr) (kn kcap : Nat) (hs : List RH) (gr : Gr) (w : World) (hG : GrAt w ao n ko kn hs gr) : Calls Tryz.prog 130 #[.agg #[.slice ao n cap, .slice ko kn kcap]] w fun e w' => RetF w ao n cap ko kn kcap hs gr e w' := by
  have hmm := @run_makeMap Tryz.prog
  have hmf : ∀ (fn : Fn) (first cap : Array Value) (w : World), (Instr.makeFunc fn first cap).run Tryz.prog w = .ok (.func fn first cap) w := fun _ _ _ _ => rfl
  go_enter Tryz.func130, Tryz.ntmps130
  go_wp2
  go_ret
  refine ⟨w.heap.size + 1 + 1, w.heap.size + 1 + 1 + 1, w.heap.size, w.heap.size + 1, rfl, sk0, ⟨(by simp only [blk_alloc]; simp [go_sem, ↓IntWalk.iteOmega]), (by simp only [blk_alloc]; simp [go_sem, ↓IntWalk.iteOmega]), (by simp only [blk_alloc]; simp [go_sem, ↓IntWalk.iteOmega]), hG.ex sk0⟩, by omega, #[], 0, (by simp only [blk_alloc]; simp [go_sem, ↓IntWalk.iteOmega])⟩

def lrS (i : Nat) : List Nat := match i with | 0 => [5] | 1 => [6] | 2 => [7] | 3 => [8] | 4 => [9] | 5 => [10] | 6 => [11] | 7 => [12] | _ => []

def lrΦ (fv : Value) (p2 q kg kf kn kcap h : Nat) (rv hv : Value) (i : Nat) (t : Nat → Value) (w' : World) : Prop := match i with
  | 0 => t 5 = fv
  | 1 => t 6 = .pointer (some ⟨p2, 1, none⟩)
  | 2 => t 7 = .slice (some ⟨kg, kf, none⟩) kn kcap
  | 3 => t 8 = .pointer (some ⟨q, 0, none⟩)
  | 4 => t 9 = .int .i64 (h : Int)
  | 5 => t 10 = .pointer (some ⟨kg, kf + h, none⟩)
  | 6 => t 11 = rv
  | 7 => t 12 = hv
  | _ => True

theorem lrΦ_mono (fv : Value) (p2 q kg kf kn kcap h : Nat) (rv hv : Value) : ∀ i t t' w' x, lrΦ fv p2 q kg kf kn kcap h rv hv i t w' → (∀ s ∈ lrS i, t' s = t s) → lrΦ fv p2 q kg kf kn kcap h rv hv i t' (plus w' x) := by
  intro i t t' w' x h hs'
  match i with
  | 0 => exact (hs' 5 (by decide)).trans h
  | 1 => exact (hs' 6 (by decide)).trans h
  | 2 => exact (hs' 7 (by decide)).trans h
  | 3 => exact (hs' 8 (by decide)).trans h
  | 4 => exact (hs' 9 (by decide)).trans h
  | 5 => exact (hs' 10 (by decide)).trans h
  | 6 => exact (hs' 11 (by decide)).trans h
  | 7 => exact (hs' 12 (by decide)).trans h
  | i + 8 => trivial

theorem map_grown {w w' : World} {b : Nat} (hm : ∃ es c, w.heap[b]? = some (.map es c)) (h : ∃ y, w' = plus w y) : ∃ es c, w'.heap[b]? = some (.map es c) := by
  obtain ⟨es, c, hb⟩ := hm
  exact ⟨es, c, blk_ex h hb⟩

set_option maxRecDepth 100000 in
set_option maxHeartbeats 4000000 in
theorem lps1 (p2 p5 p3 p4 p1 b : Nat) (ao : Option Addr) (n cap : Nat) (ko : Option Addr) (kn kcap : Nat) (hs : List RH) (gr : Gr) (hK : KHeld gr) (s : Nat) (g : Int) (hh : heldIn gr.sl s g = true) (w : World) (hE : Env w p3 p4 p1 b ao n cap ko kn kcap hs gr) (hm : ∃ es c, w.heap[b]? = some (.map es c)) (h5 : w.heap[p5]? = some (.cells #[.func (.func 170) #[] #[.pointer (some ⟨p3, 0, none⟩), .pointer (some ⟨p4, 0, none⟩)]] 177)) (h2 : w.heap[p2]? = some (.cells #[.slice ao n cap, .slice ko kn kcap] 27)) :
    Calls Tryz.prog 132 #[.agg #[.int .i64 (s : Int), .int .i64 g], .pointer (some ⟨p5, 0, none⟩), .pointer (some ⟨p2, 0, none⟩)] w fun e w' => e = .returned (.bool (anyR gr (rowAt gr ((s : Int), g)) ((s : Int), g))) ∧ w.grownBy w' (some b) ∧ ∃ es c, w'.heap[b]? = some (.map es c) := by
  have hlen := hE.gr.kl
  have hkh := hE.gr.kh.len
  have bkn := hE.gr.n2
  have hlt := held_lt hh
  rw [Int.toNat_natCast] at hlt
  have hsk : s < kn := by rw [← hlen, hK.1]; exact hlt.1
  have is1 : (s : Int) < (kn : Int) := by omega
  have hra : rowAt gr ((s : Int), g) = nth [] gr.ks s := by rw [rowAt]; simp
  have hg0 : w.grownBy (w.alloc (.cells #[.int .i64 (s : Int), .int .i64 g] 32)) (some b) := World.grownBy_alloc _ _ _
  have s5 := cell_blk (i := 0) h5 rfl
  have l5 := blk_lt h5
  have g1 := cell_blk (i := 1) h2 rfl
  have l2 := blk_lt h2
  obtain ⟨kg, kf, rfl, hkg, hkc⟩ := hE.gr.kh.some (by omega)
  have cr := cellR hE.gr.kh.len hkc hsk
  have hrow := hE.gr.row s (by omega)
  have hrn := hE.gr.n3 s (by omega)
  rw [hra]
  go_enter Tryz.func132, Tryz.ntmps132
  go_wp2
  refine region_rels 8 lrS (lrΦ (.func (.func 170) #[] #[.pointer (some ⟨p3, 0, none⟩), .pointer (some ⟨p4, 0, none⟩)]) p2 w.heap.size kg kf kn kcap s (.slice (nth dRH hs s).ao (nth dRH hs s).n (nth dRH hs s).cap) (.agg #[.int .i64 (s : Int), .int .i64 g])) (by kernel_rfl) (by kernel_rfl) (by decide) (lrΦ_mono (.func (.func 170) #[] #[.pointer (some ⟨p3, 0, none⟩), .pointer (some ⟨p4, 0, none⟩)]) p2 w.heap.size kg kf kn kcap s (.slice (nth dRH hs s).ao (nth dRH hs s).n (nth dRH hs s).cap) (.agg #[.int .i64 (s : Int), .int .i64 g])) ?steps ?fin
  case steps =>
    refine ⟨?_, ?_, ?_, ?_, ?_, ?_, ?_, ?_, trivial⟩
    · intro a w' hg hfree hdeep
      obtain ⟨x, rfl⟩ := hg
      have f1_ := hfree 1 (by kernel_rfl)
      simp only [lrΦ, got] at f1_
      simp [go_sem] at f1_
      unfold Oper.wp
      simp [go_sem, execOp, Act.eval, ↓IntWalk.iteOmega, f1_, s5]
      exact ⟨_, rfl, ex_refl _, by simp [lrΦ, upd]⟩
    · intro a w' hg hfree hdeep
      obtain ⟨x, rfl⟩ := hg
      have f2_ := hfree 2 (by kernel_rfl)
      simp only [lrΦ, got] at f2_
      simp [go_sem] at f2_
      unfold Oper.wp
      simp [go_sem, execOp, Act.eval, ↓IntWalk.iteOmega, f2_]
      exact ⟨_, rfl, ex_refl _, by simp [lrΦ, upd]⟩
    · intro a w' hg hfree hdeep
      obtain ⟨x, rfl⟩ := hg
      have d1 := hdeep 1 (by kernel_rfl)
      simp only [lrΦ, got] at d1
      unfold Oper.wp
      simp [go_sem, execOp, Act.eval, ↓IntWalk.iteOmega, d1, g1]
      exact ⟨_, rfl, ex_refl _, by simp [lrΦ, upd]⟩
    · intro a w' hg hfree hdeep
      obtain ⟨x, rfl⟩ := hg
      have f3_ := hfree 3 (by kernel_rfl)
      simp only [lrΦ, got] at f3_
      simp [go_sem] at f3_
      unfold Oper.wp
      simp [go_sem, execOp, Act.eval, ↓IntWalk.iteOmega, f3_]
      exact ⟨_, rfl, ex_refl _, by simp [lrΦ, upd]⟩
    · intro a w' hg hfree hdeep
      obtain ⟨x, rfl⟩ := hg
      have d3 := hdeep 3 (by kernel_rfl)
      simp only [lrΦ, got] at d3
      unfold Oper.wp
      simp [go_sem, execOp, Act.eval, ↓IntWalk.iteOmega, d3]
      exact ⟨_, rfl, ex_refl _, by simp [lrΦ, upd]⟩
    · intro a w' hg hfree hdeep
      obtain ⟨x, rfl⟩ := hg
      have d2 := hdeep 2 (by kernel_rfl)
      have d4 := hdeep 4 (by kernel_rfl)
      simp only [lrΦ, got] at d2 d4
      unfold Oper.wp
      simp [go_sem, execOp, Act.eval, ↓IntWalk.iteOmega, d2, d4, is1]
      exact ⟨_, rfl, ex_refl _, by simp [lrΦ, upd]⟩
    · intro a w' hg hfree hdeep
      obtain ⟨x, rfl⟩ := hg
      have d5 := hdeep 5 (by kernel_rfl)
      simp only [lrΦ, got] at d5
      unfold Oper.wp
      simp [go_sem, execOp, Act.eval, ↓IntWalk.iteOmega, d5, cr]
      exact ⟨_, rfl, ex_refl _, by simp [lrΦ, upd]⟩
    · intro a w' hg hfree hdeep
      obtain ⟨x, rfl⟩ := hg
      have f3_ := hfree 3 (by kernel_rfl)
      simp only [lrΦ, got] at f3_
      simp [go_sem] at f3_
      unfold Oper.wp
      simp [go_sem, execOp, Act.eval, ↓IntWalk.iteOmega, f3_]
      exact ⟨_, rfl, ex_refl _, by simp [lrΦ, upd]⟩
  case fin =>
    rintro t w' ⟨x2, rfl⟩ hΦ
    have r0 := hΦ 0 (by decide)
    have r1 := hΦ 1 (by decide)
    have r2 := hΦ 2 (by decide)
    have r3 := hΦ 3 (by decide)
    have r4 := hΦ 4 (by decide)
    have r5 := hΦ 5 (by decide)
    have r6 := hΦ 6 (by decide)
    have r7 := hΦ 7 (by decide)
    simp only [lrΦ] at r0 r1 r2 r3 r4 r5 r6 r7
    simp only [putAll, List.take_succ_cons, List.take_zero, List.drop_succ_cons, List.drop_zero, r0, r1, r2, r3, r4, r5, r6, r7]
    simp only [Act.put]
    simp only [List.setIfInBounds_toArray, List.set_cons_succ, List.set_cons_zero]
    clear hΦ r0 r1 r2 r3 r4 r5 r6 r7
    go_wp2_with (go_at_call 170; refine (reach2 p3 p4 p1 b ao n cap _ kn kcap hs gr hK s g hh _ _ _ (nth [] gr.ks s) _ (hE.grown (hg0.trans (grown_ex _ ⟨x2, rfl⟩)) hm) (map_grown hm (ex_plus (ex_alloc (ex_refl _)))) (hrow.ex (ex_plus (ex_alloc (ex_refl _)))) hrn (hK.2 s (by omega))).mono ?_; rintro e w4 ⟨rfl, hg4, hm4⟩)
    go_ret
    exact ⟨rfl, (hg0.trans (grown_ex _ ⟨x2, rfl⟩)).trans hg4, hm4⟩

set_option maxRecDepth 100000 in
set_option maxHeartbeats 4000000 in
theorem idxL (p2 p5 p3 p4 p1 b : Nat) (ao : Option Addr) (n cap : Nat) (ko : Option Addr) (kn kcap : Nat) (hs : List RH) (gr : Gr) (hK : KHeld gr) (fo : Option Addr) (fn fcap : Nat) (fl : List (Int × Int)) (w : World) (hE : Env w p3 p4 p1 b ao n cap ko kn kcap hs gr) (hm : ∃ es c, w.heap[b]? = some (.map es c)) (h5 : w.heap[p5]? = some (.cells #[.func (.func 170) #[] #[.pointer (some ⟨p3, 0, none⟩), .pointer (some ⟨p4, 0, none⟩)]] 177)) (h2 : w.heap[p2]? = some (.cells #[.slice ao n cap, .slice ko kn kcap] 27)) (hL : Lay f2 w fo fn fl) (hfn : fn ≤ 1000) (hfl : ∀ x, x ∈ fl → heldIn gr.sl x.1 x.2 = true) :
    Calls Tryz.prog 171 #[.slice fo fn fcap, .func (.func 132) #[] #[.pointer (some ⟨p5, 0, none⟩), .pointer (some ⟨p2, 0, none⟩)]] w fun e w' => ∃ v : Int, e = .returned (.int .i64 v) ∧ (fl.any fun h => anyR gr (rowAt gr h) h) = decide (0 ≤ v) ∧ w.grownBy w' (some b) := by
  go_enter Tryz.func171, Tryz.ntmps171
  go_wp2
  go_loopw [8] (fun i_ wr => ∃ k : Nat, k ≤ fn ∧ i_ = .int .i64 k ∧ w.grownBy wr (some b) ∧ Env wr p3 p4 p1 b ao n cap ko kn kcap hs gr ∧ (∃ es c, wr.heap[b]? = some (.map es c)) ∧ wr.heap[p5]? = some (.cells #[.func (.func 170) #[] #[.pointer (some ⟨p3, 0, none⟩), .pointer (some ⟨p4, 0, none⟩)]] 177) ∧ wr.heap[p2]? = some (.cells #[.slice ao n cap, .slice ko kn kcap] 27) ∧ Lay f2 wr fo fn fl ∧ (∀ j, j < k → anyR gr (rowAt gr (nth (0, 0) fl j)) (nth (0, 0) fl j) = false)) (fun i_ _ => fn - (intOf i_).toNat)
  case atStart => exact ⟨0, Nat.zero_le _, rfl, grown_refl _ _, hE, hm, h5, h2, hL, fun j hj => by omega⟩
  case round =>
    clear hE hm h5 h2 hL
    obtain ⟨k, hk, rfl, hg, hE, hm, h5, h2, hL, hno⟩ := hrel
    by_cases hkl : k < fn
    rotate_left
    · have ik : ¬ (k : Int) < (fn : Int) := by omega
      obtain rfl : k = fn := by omega
      go_wp2
      go_ret
      refine ⟨-1, rfl, ?_, hg⟩
      cases hA : (fl.any fun h => anyR gr (rowAt gr h) h)
      · rfl
      · exfalso
        obtain ⟨x, hx, hr⟩ := List.any_eq_true.1 hA
        obtain ⟨j, hj, rfl⟩ := List.getElem_of_mem hx
        have := hno j (by rw [← hL.len]; exact hj)
        rw [nth_eq hj, hr] at this
        cases this
    have ik : (k : Int) < (fn : Int) := by omega
    have hxl := hfl _ (nth_mem (d := (0, 0)) (k := k) (by rw [hL.len]; exact hkl))
    have hxm := nth_mem (d := ((0, 0) : Int × Int)) (l := fl) (k := k) (by rw [hL.len]; exact hkl)
    obtain ⟨fg, ff, rfl, hfg, hfc⟩ := hL.some (by omega)
    obtain ⟨c0, c1⟩ := cell2 hL.len hfc hkl
    generalize hxe : nth ((0, 0) : Int × Int) fl k = x at *
    obtain ⟨xs, xg⟩ := x
    have hlt := held_lt hxl
    simp only at hlt hxl c0 c1
    obtain ⟨h, rfl⟩ : ∃ h : Nat, xs = (h : Int) := ⟨xs.toNat, by omega⟩
    cases hA : anyR gr (rowAt gr ((h : Int), xg)) ((h : Int), xg)
    · go_wp2_with (go_at_call 132; refine (lps1 p2 p5 p3 p4 p1 b ao n cap ko kn kcap hs gr hK h xg hxl _ hE hm h5 h2).mono ?_; rintro e w1 ⟨rfl, hg1, hm1⟩; rw [hA])
      go_roundw
      case rel => exact ⟨k + 1, by omega, by go_num, hg.trans hg1, hE.grown hg1 hm, hm1, blk_grown hg1 hm h5, blk_grown hg1 hm h2, lay_grown hg1 hm hL, upto_succ hno (by rw [hxe]; exact hA)⟩
      case measure => simp [intOf]; omega
    · go_wp2_with (go_at_call 132; refine (lps1 p2 p5 p3 p4 p1 b ao n cap ko kn kcap hs gr hK h xg hxl _ hE hm h5 h2).mono ?_; rintro e w1 ⟨rfl, hg1, hm1⟩; rw [hA])
      go_ret
      exact ⟨k, rfl, by rw [show (fl.any fun h => anyR gr (rowAt gr h) h) = true from List.any_eq_true.2 ⟨_, hxm, hA⟩]; simp, hg.trans hg1⟩

set_option maxRecDepth 100000 in
theorem hasL (p2 p5 p3 p4 p1 b : Nat) (ao : Option Addr) (n cap : Nat) (ko : Option Addr) (kn kcap : Nat) (hs : List RH) (gr : Gr) (hK : KHeld gr) (fo : Option Addr) (fn fcap : Nat) (fl : List (Int × Int)) (w : World) (hE : Env w p3 p4 p1 b ao n cap ko kn kcap hs gr) (hm : ∃ es c, w.heap[b]? = some (.map es c)) (h5 : w.heap[p5]? = some (.cells #[.func (.func 170) #[] #[.pointer (some ⟨p3, 0, none⟩), .pointer (some ⟨p4, 0, none⟩)]] 177)) (h2 : w.heap[p2]? = some (.cells #[.slice ao n cap, .slice ko kn kcap] 27)) (hL : Lay f2 w fo fn fl) (hfn : fn ≤ 1000) (hfl : ∀ x, x ∈ fl → heldIn gr.sl x.1 x.2 = true) :
    Calls Tryz.prog 131 #[.slice fo fn fcap, .func (.func 132) #[] #[.pointer (some ⟨p5, 0, none⟩), .pointer (some ⟨p2, 0, none⟩)]] w fun e w' => e = .returned (.bool (fl.any fun h => anyR gr (rowAt gr h) h)) ∧ w.grownBy w' (some b) := by
  go_enter Tryz.func131, Tryz.ntmps131
  go_wp2_with (go_at_call 171; refine (idxL p2 p5 p3 p4 p1 b ao n cap ko kn kcap hs gr hK _ _ _ fl _ hE hm h5 h2 hL hfn hfl).mono ?_; rintro e w1 ⟨v, rfl, hv, hg1⟩)
  go_ret
  exact ⟨by rw [hv]; rfl, hg1⟩

set_option maxRecDepth 100000 in
set_option maxHeartbeats 4000000 in
theorem loops_calls (ao : Option Addr) (n cap : Nat) (ko : Option Addr) (kn kcap : Nat) (hs : List RH) (gr : Gr) (hK : KHeld gr) (fo : Option Addr) (fn fcap : Nat) (fl : List (Int × Int)) (w : World) (hG : GrAt w ao n ko kn hs gr) (hL : Lay f2 w fo fn fl) (hfn : fn ≤ 1000) (hfl : ∀ x, x ∈ fl → heldIn gr.sl x.1 x.2 = true) :
    Calls Tryz.prog 73 #[.agg #[.slice ao n cap, .slice ko kn kcap], .slice fo fn fcap] w fun e w' => e = .returned (.bool (fl.any fun h => anyR gr (rowAt gr h) h)) ∧ Below w.heap.size w w' := by
  have hmf : ∀ (fn : Fn) (first cap : Array Value) (w : World), (Instr.makeFunc fn first cap).run Tryz.prog w = .ok (.func fn first cap) w := fun _ _ _ _ => rfl
  go_enter Tryz.func73, Tryz.ntmps73
  go_wp2_with (first | (go_at_call 130; refine (reacher_calls ao n cap ko kn kcap hs gr _ (hG.ex sk0)).mono ?_; rintro e w1 ⟨p3, p4, p1, b, rfl, hw1, hE1, hb1, hm1⟩) | (go_at_call 131; refine (hasL w.heap.size w1.heap.size p3 p4 p1 b ao n cap ko kn kcap hs gr hK _ _ _ fl _ (hE1.grown (World.grownBy_alloc _ _ _) hm1) (map_grown hm1 sk0) (by simp only [blk_alloc]; simp [go_sem, ↓IntWalk.iteOmega]) (blk_ex (ex_alloc (ex_refl _)) (blk_ex hw1 (by simp only [blk_alloc]; simp [go_sem, ↓IntWalk.iteOmega]))) (hL.ex sn0) hfn hfl).mono ?_; rintro e w2 ⟨rfl, hg2⟩))
  go_ret
  have hxx := ex_grown (T := w) (b := b) sn0 hg2 (by have := hb1; simp [go_sem] at this ⊢; omega)
  exact ⟨rfl, below_ex hxx⟩

end

/- A map whose keys are handles: a set. -/
section

open Go.Maps Go.RowKit Go.ChangeShapes Go.WideShapes Go.ChangeAt

set_option linter.unusedSimpArgs false

set_option linter.unusedVariables false

attribute [local go_sem] plus_size plus_drew dn_set dn_alloc dn_plus plus_dn cell_plus frozen_plus set_plus cell_alloc frozen_alloc set_alloc

def hv (h : Int × Int) : Value := .agg #[.int .i64 h.1, .int .i64 h.2]

theorem equalH_run (x y : Int × Int) (w : World) : (Op.equal 32 (hv x) (hv y)).run Tryz.prog w = .ok (decide (x = y)) w := by
  obtain ⟨a, b⟩ := x
  obtain ⟨c, d⟩ := y
  have u3 := Tryz.underlying3
  have a3 := Tryz.isAgg3
  have z3 := Tryz.sizeOf3
  simp only [hv, Op.equal, Op.maxDepth]
  go_simp
  by_cases h0 : a = c <;> by_cases h1 : b = d <;> simp [h0, h1]

theorem checkH_run (em : Bool) (x : Int × Int) (w : World) : (Instr.checkKey em 10000 32 (hv x)).run Tryz.prog w = .ok () w := by
  kernel_rfl

def HSet (w : World) (b : Nat) (L : List (Int × Int)) : Prop := ∃ es c, w.heap[b]? = some (.map es c) ∧ es.toList.map (fun e => (e.key, e.val)) = L.map (fun h => (hv h, .agg #[]))

theorem ask_run (x : Int × Int) (w : World) : ∀ (es : List MapEntry) (L : List (Int × Int)) (i : Nat), es.map (fun e => (e.key, e.val)) = L.map (fun h => (hv h, .agg #[])) →
    (x ∉ L ∧ (Instr.findAsking 32 (hv x) es i).run Tryz.prog w = .ok none w) ∨ (x ∈ L ∧ ∃ j, (Instr.findAsking 32 (hv x) es i).run Tryz.prog w = .ok (some (j, .agg #[])) w)
  | [], L, i, h => by
    obtain rfl : L = [] := by cases L <;> simp_all
    exact .inl ⟨by simp, by simp [Instr.findAsking]⟩
  | e :: es, L, i, h => by
    cases L with
    | nil => simp at h
    | cons y L =>
      simp only [List.map_cons, List.cons.injEq, Prod.mk.injEq] at h
      obtain ⟨⟨hk, hvv⟩, h⟩ := h
      have hq := equalH_run x y w
      by_cases exy : x = y
      · subst exy
        refine .inr ⟨by simp, i, ?_⟩
        rw [Instr.findAsking]
        simp [hk, hvv, hq, Result.andThen]
      · have hq' : (Op.equal 32 (hv x) (hv y)).run Tryz.prog w = .ok false w := by rw [hq]; simp [exy]
        rcases ask_run x w es L (i + 1) h with ⟨h1, h2⟩ | ⟨h1, j, h2⟩
        · refine .inl ⟨by simp [exy, h1], ?_⟩
          rw [Instr.findAsking]
          simp [hk, hq', h2, Result.andThen]
        · refine .inr ⟨by simp [h1], j, ?_⟩
          rw [Instr.findAsking]
          simp [hk, hq', h2, Result.andThen]

theorem find_run (x : Int × Int) (w : World) (es : List MapEntry) (L : List (Int × Int)) (h : es.map (fun e => (e.key, e.val)) = L.map (fun h => (hv h, .agg #[]))) :
    (x ∉ L ∧ (Instr.findKey 32 (hv x) es).run Tryz.prog w = .ok none w) ∨ (x ∈ L ∧ ∃ j, (Instr.findKey 32 (hv x) es).run Tryz.prog w = .ok (some (j, .agg #[])) w) := by
  cases es with
  | nil =>
    obtain rfl : L = [] := by cases L <;> simp_all
    exact .inl ⟨by simp, by simp [Instr.findKey, run_underlying Tryz.underlying32, Instr.findNow, Result.andThen]⟩
  | cons e es =>
    have hn : ∀ fs, Instr.findNow (.struct fs) (hv x) (e :: es) 0 = none := fun fs => by
      rw [Instr.findNow]
      simp [Instr.sameNow]
    have hr := ask_run x w (e :: es) L 0 h
    have hu : (Instr.findKey 32 (hv x) (e :: es)).run Tryz.prog w = (Instr.findAsking 32 (hv x) (e :: es)).run Tryz.prog w := by
      simp [Instr.findKey, run_underlying Tryz.underlying32, hn, Result.andThen]
    rw [hu]
    exact hr

section

variable {w w' : World} {b : Nat} {L : List (Int × Int)} {ops : Array Oper} {rest : List Oper} {o : Oper} {a : Act} {Q : Exit → Act → World → Prop}

theorem HSet.map (h : HSet w b L) : ∃ es c, w.heap[b]? = some (.map es c) := by
  obtain ⟨es, c, hb, _⟩ := h
  exact ⟨es, c, hb⟩

theorem HSet.ex (h : HSet w b L) (hw : ∃ y, w' = plus w y) : HSet w' b L := by
  obtain ⟨es, c, hb, hk⟩ := h
  exact ⟨es, c, blk_ex hw hb, hk⟩

theorem wpList_lookup_h (hgd : o.guard = none) (m x : Operand) (hop : o.op = Op.lookup 174 m x true) (hm : a.eval m = .map (some b)) (hS : HSet w b L) (h : Int × Int) (hx : a.eval x = hv h)
    (hK : wpList Tryz.prog ops Q rest (a.put o.dst (.tuple #[.agg #[], .bool (decide (h ∈ L))])) w) : wpList Tryz.prog ops Q (o :: rest) a w := by
  refine wpList_plain hgd fun K' hK' => ?_
  obtain ⟨es, c, hb, hk⟩ := hS
  have hrun : (Instr.lookup 174 (.map (some b)) (hv h) true).run Tryz.prog w = .ok (.tuple #[.agg #[], .bool (decide (h ∈ L))]) w := by
    rcases find_run h w es.toList L hk with ⟨h1, h2⟩ | ⟨h1, j, h2⟩
    · simp [Instr.lookup, run_underlying Tryz.underlying174, MapKept.run_getObj_map hb, checkH_run, h2, h1, zeroU, Result.andThen]
    · simp [Instr.lookup, run_underlying Tryz.underlying174, MapKept.run_getObj_map hb, checkH_run, h2, h1, Result.andThen]
  unfold Oper.wp
  simp only [execOp, hop, hm, hx]
  simp [hrun, Result.andThen]
  exact hK' _ _ hK

theorem wpList_mapUpdate_h (hgd : o.guard = none) (m x v : Operand) (hop : o.op = Op.mapUpdate 174 m x v) (hm : a.eval m = .map (some b)) (hS : HSet w b L) (h : Int × Int) (hx : a.eval x = hv h) (hvv : a.eval v = .agg #[]) (hn : h ∉ L)
    (hK : ∀ w', HSet w' b (L ++ [h]) → w.grownBy w' (some b) → wpList Tryz.prog ops Q rest (a.put o.dst undef) w') : wpList Tryz.prog ops Q (o :: rest) a w := by
  refine wpList_plain hgd fun K' hK' => ?_
  obtain ⟨es, c, hb, hk⟩ := hS
  have hrun : (Instr.mapUpdate 174 (.map (some b)) (hv h) (.agg #[])).run Tryz.prog w = .ok () (ChangeMaps.setBlock w b (.map (es.push { key := hv h, val := .agg #[], born := c }) (c + 1))) := by
    rcases find_run h w es.toList L hk with ⟨h1, h2⟩ | ⟨h1, j, h2⟩
    · simp [Instr.mapUpdate, run_underlying Tryz.underlying174, MapKept.run_getObj_map hb, checkH_run, h2, MapKept.run_setObj_map _ hb, Result.andThen, ChangeMaps.setBlock]
    · exact absurd h1 hn
  unfold Oper.wp
  simp only [execOp, hop, hm, hx, hvv]
  simp [hrun, Result.andThen]
  refine hK' _ _ (hK _ ⟨_, _, ChangeMaps.heap_setBlock_same hb _, ?_⟩ ⟨rfl, rfl, rfl, by simp [ChangeMaps.setBlock], fun i _ hi => ChangeMaps.heap_setBlock_other hb _ (fun e => hi (by rw [e]))⟩)
  simp [hk]

end

end

/- What nodes.kidsMayBe gives. -/
section

open Go.Maps Go.RowKit Go.ChangeShapes Go.WideShapes Go.ChangeAt

set_option linter.unusedSimpArgs false

set_option linter.unusedVariables false

attribute [local go_sem] plus_size plus_drew dn_set dn_alloc dn_plus plus_dn cell_plus frozen_plus set_plus cell_alloc frozen_alloc set_alloc

theorem not_mem_take {α : Type} {d : α} : ∀ {l : List α} {k : Nat}, l.Nodup → k < l.length → nth d l k ∉ l.take k
  | [], k, _, h => by simp at h
  | a :: l, 0, _, _ => by simp
  | a :: l, k + 1, hn, h => by
    rw [List.nodup_cons] at hn
    have hk : k < l.length := by simpa using h
    rw [nth_cons_succ, List.take_succ_cons, List.mem_cons]
    rintro (e | e)
    · exact hn.1 (e ▸ nth_mem hk)
    · exact not_mem_take hn.2 hk e

theorem run_makeMapN (n : Nat) (w : World) : (Instr.makeMap 174 (some (.int .i64 (n : Int)))).run Tryz.prog w = .ok (.map (some w.heap.size)) (w.alloc (.map #[] 0)) := by
  simp [Instr.makeMap, run_underlying Tryz.underlying174, asInt, Result.andThen]
  rfl

set_option maxRecDepth 100000 in
set_option maxHeartbeats 16000000 in
theorem mayBe_calls (ao : Option Addr) (n cap : Nat) (ko : Option Addr) (kn kcap : Nat) (hs : List RH) (gr : Gr) (fo : Option Addr) (fn fcap : Nat) (fl : List (Int × Int)) (w : World) (hG : GrAt w ao n ko kn hs gr) (hL : Lay f2 w fo fn fl) (hfn : fn ≤ 1000) (hN : fl.Nodup) (hF : ∀ x, decide (x ∈ fl) = heldIn gr.sl x.1 x.2) :
    Calls Tryz.prog 72 #[.agg #[.slice ao n cap, .slice ko kn kcap], .slice fo fn fcap] w fun e w' => e = .returned (.bool (decide (gr.ks.length = gr.sl.length) && rowsOk gr)) ∧ Below w.heap.size w w' := by
  have hlen := hG.kl
  have hkh := hG.kh.len
  have hsl := hG.sl.len
  have bkn := hG.n2
  have hmm := run_makeMapN
  by_cases hne : kn = n
  rotate_left
  · rw [decide_eq_false (show ¬ gr.ks.length = gr.sl.length by omega)]
    have ine : ¬ (kn : Int) = (n : Int) := by omega
    have dne : ((kn : Int) == (n : Int)) = false := by rw [beq_eq_false_iff_ne]; omega
    go_enter Tryz.func72, Tryz.ntmps72
    go_wp2
    go_ret
    exact ⟨rfl, skB⟩
  subst hne
  rw [decide_eq_true (show gr.ks.length = gr.sl.length by omega), Bool.true_and]
  have hll := hL.len
  go_enter Tryz.func72, Tryz.ntmps72
  go_wp2
  go_loopw [27] (fun i_ wr => ∃ k : Nat, k ≤ fn ∧ i_ = .int .i64 k ∧ (∃ y, wr = plus (w.alloc (.cells #[.slice ao kn cap, .slice ko kn kcap] 27)) y) ∧ HSet wr (w.heap.size + 1) (fl.take k)) (fun i_ _ => fn - (intOf i_).toNat)
  case atStart => exact ⟨0, Nat.zero_le _, rfl, sk0, #[], 0, by rw [blk_alloc, if_pos (by simp)], by simp⟩
  case round =>
    obtain ⟨k, hk, rfl, hx2, hS⟩ := hrel
    have hbox : wr.heap[w.heap.size]? = some (.cells #[.slice ao kn cap, .slice ko kn kcap] 27) := blk_ex hx2 (by rw [blk_alloc, if_pos rfl])
    have lb := blk_lt hbox
    by_cases hkl : k < fn
    · have ik : (k : Int) < (fn : Int) := by omega
      have hLw := hL.ex (w' := wr) (ex_trans (ex_alloc (ex_refl _)) hx2)
      obtain ⟨fg, ff, rfl, hfg, hfc⟩ := hLw.some (by omega)
      obtain ⟨c0, c1⟩ := cell2 hLw.len hfc hkl
      have hnin := not_mem_take (d := ((0, 0) : Int × Int)) hN (k := k) (by omega)
      go_wp2_with (at_mapUpdate; refine wpList_mapUpdate_h rfl _ _ _ rfl rfl (hS.ex sk0) (nth (0, 0) fl k) rfl rfl hnin ?_; intro w3 hS3 hg3; simp only [Act.put, List.setIfInBounds_toArray, List.set_cons_succ, List.set_cons_zero])
      go_roundw
      case rel => exact ⟨k + 1, by omega, by go_num, ex_grown (ex_alloc hx2) hg3 (by simp), by rw [take_nth (d := ((0, 0) : Int × Int)) (by omega)]; exact hS3⟩
      case measure => simp [intOf]; omega
    have ik : ¬ (k : Int) < (fn : Int) := by omega
    obtain rfl : k = fn := by omega
    rw [List.take_of_length_le (by omega)] at hS
    have hGw := hG.ex (w' := wr) (ex_trans (ex_alloc (ex_refl _)) hx2)
    have hbl : Below w.heap.size w wr := below_ex (ex_trans (ex_alloc (ex_refl _)) hx2)
    have g0 := cell_blk (i := 0) hbox rfl
    have g1 := cell_blk (i := 1) hbox rfl
    clear hx2 hG hbox
    go_wp2
    go_loopw [38] (fun i_ wz => ∃ i : Nat, i ≤ kn ∧ i_ = .int .i64 i ∧ (∀ j, j < i → rowOk gr.sl j (nth [] gr.ks j) = true) ∧ ∃ x, wz = plus wr x) (fun i_ _ => kn - (intOf i_).toNat)
    case atStart => exact ⟨0, Nat.zero_le _, rfl, fun j hj => by omega, sk0⟩
    case round =>
      obtain ⟨i, hi, rfl, hrows, x, rfl⟩ := hrel
      by_cases hil : i < kn
      rotate_left
      · have ii : ¬ (i : Int) < (kn : Int) := by omega
        have hR : rowsOk gr = true := rows_yes fun j hj => hrows j (by omega)
        go_wp2
        go_ret
        exact ⟨by first | rfl | (rw [hR]; rfl), hbl.trans ((below_ex sk0).mono hbl.size)⟩
      have ii : (i : Int) < (kn : Int) := by omega
      obtain ⟨kg, kf, rfl, hkg, hkc⟩ := hGw.kh.some (by omega)
      obtain ⟨sg, sf, rfl, hsg, hsc⟩ := hGw.sl.some (by omega)
      have c1 := cellR hkh hkc hil
      obtain ⟨v0, v1⟩ := cellS hsl hsc hil
      have hrow := hGw.row i (by omega)
      have hrl := hrow.len
      have hn3 := hGw.n3 i (by omega)
      by_cases h16 : 16 < (nth dRH hs i).n
      · have i16 : (16 : Int) < ((nth dRH hs i).n : Int) := by omega
        have hno : rowsOk gr = false := rows_no (i := i) (by omega) (by rw [rowOk, decide_eq_false (by omega), Bool.false_and])
        go_wp2
        go_ret
        exact ⟨by first | rfl | (rw [hno]; rfl), hbl.trans ((below_ex sk0).mono hbl.size)⟩
      have i16 : ¬ (16 : Int) < ((nth dRH hs i).n : Int) := by omega
      have d16 := decide_eq_false i16
      by_cases h0 : (nth dRH hs i).n = 0
      · have i0 : ¬ (0 : Int) < ((nth dRH hs i).n : Int) := by omega
        have d0 : decide (0 < (nth dRH hs i).n) = false := decide_eq_false (by omega)
        have hok : rowOk gr.sl i (nth [] gr.ks i) = true := by
          have e : nth [] gr.ks i = [] := List.eq_nil_of_length_eq_zero (by omega)
          rw [e]
          rfl
        go_wp2
        go_loopw [63] (fun k_ wz => ∃ k : Nat, k ≤ (nth dRH hs i).n ∧ k_ = .int .i64 k ∧ (∀ j, j < k → heldIn gr.sl (nth (0, 0) (nth [] gr.ks i) j).1 (nth (0, 0) (nth [] gr.ks i) j).2 = true) ∧ ∃ y, wz = plus (plus wr x) y) (fun k_ _ => (nth dRH hs i).n - (intOf k_).toNat)
        case atStart => exact ⟨0, Nat.zero_le _, rfl, fun j hj => by omega, sk0⟩
        case round =>
          obtain ⟨k, hk, rfl, hh, y, rfl⟩ := hrel
          obtain rfl : k = 0 := by omega
          have ikk : ¬ ((0 : Nat) : Int) < ((nth dRH hs i).n : Int) := by omega
          go_wp2
          go_roundw
          case rel => exact ⟨i + 1, by omega, by go_num, upto_succ hrows hok, sk0⟩
          case measure => simp [intOf]; omega
      have i0 : (0 : Int) < ((nth dRH hs i).n : Int) := by omega
      have d0 : decide (0 < (nth dRH hs i).n) = true := decide_eq_true (by omega)
      cases hv : (nth dSl gr.sl i).live
      · rw [hv] at v1
        have hno : rowsOk gr = false := rows_no (i := i) (by omega) (by rw [rowOk, hv, decide_eq_false (show ¬ (nth [] gr.ks i).length = 0 by omega)]; simp)
        go_wp2
        go_ret
        exact ⟨by first | rfl | (rw [hno]; rfl), hbl.trans ((below_ex sk0).mono hbl.size)⟩
      rw [hv] at v1
      have hpre : rowOk gr.sl i (nth [] gr.ks i) = (nth [] gr.ks i).all fun h => heldIn gr.sl h.1 h.2 := by
        rw [rowOk, hv, decide_eq_true (show (nth [] gr.ks i).length ≤ 16 by omega), Bool.or_true, Bool.true_and, Bool.true_and]
      obtain ⟨rg, ro, hra, hrg, hrc⟩ := hrow.some (by omega)
      rw [hra] at c1
      go_wp2
      go_loopw [63] (fun k_ wz => ∃ k : Nat, k ≤ (nth dRH hs i).n ∧ k_ = .int .i64 k ∧ (∀ j, j < k → heldIn gr.sl (nth (0, 0) (nth [] gr.ks i) j).1 (nth (0, 0) (nth [] gr.ks i) j).2 = true) ∧ ∃ y, wz = plus (plus wr x) y) (fun k_ _ => (nth dRH hs i).n - (intOf k_).toNat)
      case atStart => exact ⟨0, Nat.zero_le _, rfl, fun j hj => by omega, sk0⟩
      case round =>
        obtain ⟨k, hk, rfl, hh, y, rfl⟩ := hrel
        by_cases hkl : k < (nth dRH hs i).n
        rotate_left
        · have ikk : ¬ (k : Int) < ((nth dRH hs i).n : Int) := by omega
          have hok : rowOk gr.sl i (nth [] gr.ks i) = true := by
            rw [hpre]
            exact all_yes (d := ((0, 0) : Int × Int)) (fun j hj => hh j (by omega))
          go_wp2
          go_roundw
          case rel => exact ⟨i + 1, by omega, by go_num, upto_succ hrows hok, sk0⟩
          case measure => simp [intOf]; omega
        have ikk : (k : Int) < ((nth dRH hs i).n : Int) := by omega
        obtain ⟨x0, x1⟩ := cell2 hrl hrc hkl
        have hin := hF (nth (0, 0) (nth [] gr.ks i) k)
        cases hq : heldIn gr.sl (nth (0, 0) (nth [] gr.ks i) k).1 (nth (0, 0) (nth [] gr.ks i) k).2
        · rw [hq] at hin
          have hno : rowsOk gr = false := rows_no (i := i) (by omega) (by rw [hpre]; exact all_not (d := ((0, 0) : Int × Int)) (k := k) (by omega) hq)
          go_wp2_with (at_lookup; refine wpList_lookup_h rfl _ _ rfl rfl (hS.ex sk0) (nth (0, 0) (nth [] gr.ks i) k) rfl ?_; rw [hin])
          go_ret
          exact ⟨by first | rfl | (rw [hno]; rfl), hbl.trans ((below_ex sk0).mono hbl.size)⟩
        · rw [hq] at hin
          go_wp2_with (at_lookup; refine wpList_lookup_h rfl _ _ rfl rfl (hS.ex sk0) (nth (0, 0) (nth [] gr.ks i) k) rfl ?_; rw [hin])
          go_roundw
          case rel => exact ⟨k + 1, by omega, by go_num, upto_succ hh hq, sk0⟩
          case measure => simp [intOf]; omega

end

/- What nodes.Check and refused give. -/
section

open Go.Maps Go.RowKit Go.ChangeShapes Go.WideShapes Go.ChangeAt

set_option linter.unusedSimpArgs false

set_option linter.unusedVariables false

attribute [local go_sem] plus_size plus_drew dn_set dn_alloc dn_plus plus_dn cell_plus frozen_plus set_plus cell_alloc frozen_alloc set_alloc

theorem allH_mem (l : List Sl) (x : Int × Int) : ∀ k, x ∈ allH l k ↔ ∃ j : Nat, j < k ∧ x = ((j : Int), (nth dSl l j).gen) ∧ (nth dSl l j).live = true
  | 0 => by simp [allH]
  | k + 1 => by
    rw [allH, List.mem_append, allH_mem l x k]
    constructor
    · rintro (⟨j, hj, h⟩ | h)
      · exact ⟨j, by omega, h⟩
      · by_cases hv : (nth dSl l k).live = true
        · rw [if_pos hv, List.mem_singleton] at h
          exact ⟨k, by omega, h, hv⟩
        · rw [if_neg hv] at h
          cases h
    · rintro ⟨j, hj, h, hv⟩
      by_cases e : j = k
      · subst e
        right
        rw [if_pos hv, List.mem_singleton]
        exact h
      · exact .inl ⟨j, by omega, h, hv⟩

theorem allH_nodup (l : List Sl) : ∀ k, (allH l k).Nodup
  | 0 => by simp [allH]
  | k + 1 => by
    rw [allH]
    by_cases hv : (nth dSl l k).live = true
    · rw [if_pos hv, List.nodup_append]
      refine ⟨allH_nodup l k, by simp, ?_⟩
      intro a ha b hb e
      subst e
      rw [List.mem_singleton] at hb
      subst hb
      obtain ⟨j, hj, e, _⟩ := (allH_mem l _ k).1 ha
      have := congrArg Prod.fst e
      simp only at this
      omega
    · rw [if_neg hv, List.append_nil]
      exact allH_nodup l k

theorem allH_dec (l : List Sl) (x : Int × Int) : decide (x ∈ allH l l.length) = heldIn l x.1 x.2 := by
  rw [Bool.eq_iff_iff, decide_eq_true_iff, allH_mem, held_spec]
  constructor
  · rintro ⟨j, hj, rfl, hv⟩
    simp only [Int.toNat_natCast]
    exact ⟨⟨by omega, by omega⟩, hv, by first | trivial | rfl⟩
  · rintro ⟨⟨h0, h1⟩, hv, hg⟩
    refine ⟨x.1.toNat, by omega, ?_, hv⟩
    obtain ⟨a, b⟩ := x
    simp only at *
    rw [hg, Int.toNat_of_nonneg h0]

theorem loops_is {gr : Gr} (h2 : gr.ks.length = gr.sl.length) (h3 : rowsOk gr = true) : ((allH gr.sl gr.sl.length).any fun h => anyR gr (rowAt gr h) h) = !looseB gr := by
  have hK := KHeld.of gr h2 h3
  have hAll : ∀ x, x ∈ allH gr.sl gr.sl.length ↔ heldIn gr.sl x.1 x.2 = true := fun x => by rw [← allH_dec, decide_eq_true_iff]
  have hr : ∀ h, heldIn gr.sl h.1 h.2 = true → ∀ x, x ∈ rowAt gr h → heldIn gr.sl x.1 x.2 = true := fun h hh x hx => hK.2 _ (by rw [h2]; exact (held_lt hh).1) x hx
  rw [Bool.eq_iff_iff, List.any_eq_true, Bool.not_eq_true', ← Bool.not_eq_true, loose_iff h2 h3]
  constructor
  · rintro ⟨h, hm, ha⟩ hA
    have hh := (hAll h).1 hm
    obtain ⟨x, hx, hrx⟩ := (anyR_iff hK (hr h hh)).1 ha
    exact hA h.1.toNat (by rw [h2]; exact (held_lt hh).1) x.1.toNat (kof_mem.2 ⟨x, hx, rfl⟩) hrx
  · intro hA
    have : ∃ i, i < gr.ks.length ∧ ∃ c, c ∈ kof gr.ks i ∧ Reach (kof gr.ks) c i := by
      refine Classical.byContradiction fun hno => hA ?_
      intro i hi c hc hrc
      exact hno ⟨i, hi, c, hc, hrc⟩
    obtain ⟨i, hi, c, hc, hrc⟩ := this
    obtain ⟨x, hx, rfl⟩ := kof_mem.1 hc
    have hv : (nth dSl gr.sl i).live = true := by
      rcases (rows_at h3 hi).2.1 with h0 | h0
      · rw [List.eq_nil_of_length_eq_zero h0] at hx
        cases hx
      · exact h0
    have hmem : ((i : Int), (nth dSl gr.sl i).gen) ∈ allH gr.sl gr.sl.length := (allH_mem _ _ _).2 ⟨i, by omega, rfl, hv⟩
    have hrow : rowAt gr ((i : Int), (nth dSl gr.sl i).gen) = nth [] gr.ks i := by rw [rowAt]; simp
    exact ⟨_, hmem, (anyR_iff hK (hr _ ((hAll _).1 hmem))).2 ⟨x, by rw [hrow]; exact hx, by simpa using hrc⟩⟩

set_option maxRecDepth 100000 in
set_option maxHeartbeats 4000000 in
theorem ncheck_calls (ao : Option Addr) (n cap : Nat) (ko : Option Addr) (kn kcap : Nat) (hs : List RH) (gr : Gr) (w : World) (hG : GrAt w ao n ko kn hs gr) : Calls Tryz.prog 27 #[.agg #[.slice ao n cap, .slice ko kn kcap]] w fun e w' => e = .returned (.int .i64 (grErr gr)) ∧ Below w.heap.size w w' := by
  have b1 := hG.n1
  have hsl := hG.sl.len
  have hlen := hG.kl
  cases ho : arOk gr.sl
  · have hA : allErr gr.sl = 8 := by rw [allErr, ho]; rfl
    rw [show grErr gr = 8 by rw [grErr, grOk, ho]; rfl]
    go_enter Tryz.func27, Tryz.ntmps27
    go_wp2_with (go_at_call 71; refine (lall_calls _ _ _ gr.sl _ (hG.sl.ex sk0) (by omega)).mono ?_; rintro e w1 ⟨fo, fn, fcap, rfl, hw1, hLf⟩; rw [hA]; have hlf := hLf.len; have bx : w1.heap[w.heap.size]? = some (.cells #[.slice ao n cap, .slice ko kn kcap] 27) := blk_ex hw1 (by rw [blk_alloc, if_pos rfl]); have g0 := cell_blk (i := 0) bx rfl; have g1 := cell_blk (i := 1) bx rfl; have lbx := blk_lt bx)
    go_ret
    exact ⟨rfl, below_ex sn0⟩
  have hA : allErr gr.sl = 0 := by rw [allErr, ho]; rfl
  have hAL : allList gr.sl = allH gr.sl gr.sl.length := by rw [allList, if_pos ho]
  have hle := allH_le gr.sl gr.sl.length
  have hh := allH_dec gr.sl
  have hnd := allH_nodup gr.sl gr.sl.length
  rw [← hAL] at hle hh hnd
  cases hM : (decide (gr.ks.length = gr.sl.length) && rowsOk gr)
  · rw [show grErr gr = 8 by rw [grErr, grOk, ho, Bool.true_and, ← Bool.and_assoc, hM]; rfl]
    go_enter Tryz.func27, Tryz.ntmps27
    go_wp2_with (first | (go_at_call 71; refine (lall_calls _ _ _ gr.sl _ (hG.sl.ex sk0) (by omega)).mono ?_; rintro e w1 ⟨fo, fn, fcap, rfl, hw1, hLf⟩; rw [hA]; have hlf := hLf.len; have bx : w1.heap[w.heap.size]? = some (.cells #[.slice ao n cap, .slice ko kn kcap] 27) := blk_ex hw1 (by rw [blk_alloc, if_pos rfl]); have g0 := cell_blk (i := 0) bx rfl; have g1 := cell_blk (i := 1) bx rfl; have lbx := blk_lt bx) | (go_at_call 72; refine (plus_post (mayBe_calls _ _ _ _ _ _ hs gr _ _ _ (allList gr.sl) _ (hG.ex sn0) (hLf.ex sk0) (by omega) hnd hh)).mono ?_; rintro e w' ⟨rfl, nx, rfl⟩; rw [hM]))
    go_ret
    exact ⟨rfl, below_ex sn0⟩
  have hM2 := hM
  rw [Bool.and_eq_true, decide_eq_true_iff] at hM2
  have hK := KHeld.of gr hM2.1 hM2.2
  have hlp := loops_is hM2.1 hM2.2
  rw [← hAL] at hlp
  cases hO : looseB gr
  · rw [show grErr gr = 8 by rw [grErr, grOk, hO, Bool.and_false, Bool.and_false]; rfl]
    rw [hO] at hlp
    go_enter Tryz.func27, Tryz.ntmps27
    go_wp2_with (first | (go_at_call 71; refine (lall_calls _ _ _ gr.sl _ (hG.sl.ex sk0) (by omega)).mono ?_; rintro e w1 ⟨fo, fn, fcap, rfl, hw1, hLf⟩; rw [hA]; have hlf := hLf.len; have bx : w1.heap[w.heap.size]? = some (.cells #[.slice ao n cap, .slice ko kn kcap] 27) := blk_ex hw1 (by rw [blk_alloc, if_pos rfl]); have g0 := cell_blk (i := 0) bx rfl; have g1 := cell_blk (i := 1) bx rfl; have lbx := blk_lt bx) | (go_at_call 72; refine (plus_post (mayBe_calls _ _ _ _ _ _ hs gr _ _ _ (allList gr.sl) _ (hG.ex sn0) (hLf.ex sk0) (by omega) hnd hh)).mono ?_; rintro e w' ⟨rfl, nx, rfl⟩; rw [hM]) | (go_at_call 73; refine (plus_post (loops_calls _ _ _ _ _ _ hs gr hK _ _ _ (allList gr.sl) _ (hG.ex sn0) (hLf.ex sk0) (by omega) (fun x hx => by rw [← hh, decide_eq_true_iff]; exact hx))).mono ?_; rintro e w' ⟨rfl, ny, rfl⟩; rw [hlp]))
    go_ret
    exact ⟨rfl, below_ex sn0⟩
  · rw [show grErr gr = 0 by rw [grErr, grOk, hO, ho, hM2.2, decide_eq_true hM2.1]; rfl]
    rw [hO] at hlp
    go_enter Tryz.func27, Tryz.ntmps27
    go_wp2_with (first | (go_at_call 71; refine (lall_calls _ _ _ gr.sl _ (hG.sl.ex sk0) (by omega)).mono ?_; rintro e w1 ⟨fo, fn, fcap, rfl, hw1, hLf⟩; rw [hA]; have hlf := hLf.len; have bx : w1.heap[w.heap.size]? = some (.cells #[.slice ao n cap, .slice ko kn kcap] 27) := blk_ex hw1 (by rw [blk_alloc, if_pos rfl]); have g0 := cell_blk (i := 0) bx rfl; have g1 := cell_blk (i := 1) bx rfl; have lbx := blk_lt bx) | (go_at_call 72; refine (plus_post (mayBe_calls _ _ _ _ _ _ hs gr _ _ _ (allList gr.sl) _ (hG.ex sn0) (hLf.ex sk0) (by omega) hnd hh)).mono ?_; rintro e w' ⟨rfl, nx, rfl⟩; rw [hM]) | (go_at_call 73; refine (plus_post (loops_calls _ _ _ _ _ _ hs gr hK _ _ _ (allList gr.sl) _ (hG.ex sn0) (hLf.ex sk0) (by omega) (fun x hx => by rw [← hh, decide_eq_true_iff]; exact hx))).mono ?_; rintro e w' ⟨rfl, ny, rfl⟩; rw [hlp]))
    go_ret
    exact ⟨rfl, below_ex sn0⟩

def heldErr (g : Gr) (fl : List (Int × Int)) : Int := if (fl.all fun h => heldIn g.sl h.1 h.2) = true then 0 else 50

def refErr (g : Gr) (fl : List (Int × Int)) : Int := if grOk g = true then heldErr g fl else 8

theorem ref_one (g : Gr) (h : Int × Int) : refErr g [h] = askErr g h h := by simp [refErr, heldErr, askErr]

theorem ref_two (g : Gr) (h i : Int × Int) : refErr g [h, i] = askErr g h i := by simp [refErr, heldErr, askErr]

theorem nref_is {g : Gr} {e : Int} (h : grErr g = e) (ao : Option Addr) (n cap : Nat) (ko : Option Addr) (kn kcap : Nat) (hs : List RH) {w : World} (hG : GrAt w ao n ko kn hs g) : Calls Tryz.prog 27 #[.agg #[.slice ao n cap, .slice ko kn kcap]] w fun e' w' => e' = .returned (.int .i64 e) ∧ Below w.heap.size w w' := by
  subst h
  exact ncheck_calls _ _ _ _ _ _ _ _ _ hG

set_option maxRecDepth 100000 in
set_option maxHeartbeats 4000000 in
theorem refused_calls (ao : Option Addr) (n cap : Nat) (ko : Option Addr) (kn kcap : Nat) (hs : List RH) (gr : Gr) (fo : Option Addr) (fn fcap : Nat) (fl : List (Int × Int)) (w : World) (hG : GrAt w ao n ko kn hs gr) (hL : Lay f2 w fo fn fl) (hfn : fn ≤ 1000) : Calls Tryz.prog 162 #[.agg #[.slice ao n cap, .slice ko kn kcap], .slice fo fn fcap] w fun e w' => e = .returned (.int .i64 (refErr gr fl)) ∧ Below w.heap.size w w' := by
  have b1 := hG.n1
  have hll := hL.len
  cases hO : grOk gr
  · have he : grErr gr = 8 := by rw [grErr, hO]; rfl
    rw [show refErr gr fl = 8 by rw [refErr, hO]; rfl]
    go_enter Tryz.func162, Tryz.ntmps162
    go_wp2_with (go_at_call 27; refine (plus_post (nref_is he _ _ _ _ _ _ hs (hG.ex sk0))).mono ?_; rintro e w' ⟨rfl, nx, rfl⟩)
    go_ret
    exact ⟨rfl, skB⟩
  have he : grErr gr = 0 := by rw [grErr, hO]; rfl
  have har := (gr_parts hO).1
  rw [show refErr gr fl = heldErr gr fl by rw [refErr, if_pos hO]]
  go_enter Tryz.func162, Tryz.ntmps162
  go_wp2_with (go_at_call 27; refine (plus_post (nref_is he _ _ _ _ _ _ hs (hG.ex sk0))).mono ?_; rintro e w' ⟨rfl, nx, rfl⟩)
  go_loopw [15] (fun i_ wr => ∃ k : Nat, k ≤ fn ∧ i_ = .int .i64 k ∧ (∀ j, j < k → heldIn gr.sl (nth (0, 0) fl j).1 (nth (0, 0) fl j).2 = true) ∧ ∃ x, wr = plus (plus (w.alloc (.cells #[.slice ao n cap, .slice ko kn kcap] 27)) nx) x) (fun i_ _ => fn - (intOf i_).toNat)
  case atStart => exact ⟨0, Nat.zero_le _, rfl, fun j hj => by omega, sk0⟩
  case round =>
    obtain ⟨k, hk, rfl, hh, x, rfl⟩ := hrel
    by_cases hkl : k < fn
    rotate_left
    · have ik : ¬ (k : Int) < (fn : Int) := by omega
      go_wp2
      go_ret
      exact ⟨by rw [heldErr, if_pos (all_yes (d := ((0, 0) : Int × Int)) (fun j hj => hh j (by omega)))]; rfl, skB⟩
    have ik : (k : Int) < (fn : Int) := by omega
    obtain ⟨fg, ff, rfl, hfg, hfc⟩ := hL.some (by omega)
    obtain ⟨c0, c1⟩ := cell2 hL.len hfc hkl
    cases hq : heldIn gr.sl (nth (0, 0) fl k).1 (nth (0, 0) fl k).2
    · have hH : holds gr.sl (nth (0, 0) fl k).1 (nth (0, 0) fl k).2 = false := by rw [holds, hq, Bool.and_false]
      go_wp2_with (go_at_call 79; refine (plus_post (lholds_calls _ _ _ gr.sl _ _ _ (hG.sl.ex sk0) (by omega))).mono ?_; rintro e w' ⟨rfl, nh, rfl⟩; rw [hH])
      go_ret
      exact ⟨by rw [heldErr, if_neg (by rw [all_not (d := ((0, 0) : Int × Int)) (k := k) (by omega) hq]; decide)]; rfl, skB⟩
    · have hH : holds gr.sl (nth (0, 0) fl k).1 (nth (0, 0) fl k).2 = true := by rw [holds, hq, har]; rfl
      go_wp2_with (go_at_call 79; refine (plus_post (lholds_calls _ _ _ gr.sl _ _ _ (hG.sl.ex sk0) (by omega))).mono ?_; rintro e w' ⟨rfl, nh, rfl⟩; rw [hH])
      go_roundw
      case rel => exact ⟨k + 1, by omega, by go_num, upto_succ hh hq, sk0⟩
      case measure => simp [intOf]; omega

end

end Go.Proofs.YtcekcihijdipoaaGreat
