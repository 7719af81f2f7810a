/- What dioramalaw06.spoil and count give: memory that is written over. -/
import Derived.Test.YtmmflpjfgapaaaaNodes5
namespace Go.Proofs.Ytmmflpjfgapaaaa
open Go.RowKit Go.ChangeShapes Go.WideShapes Go.ChangeAt
set_option linter.unusedSimpArgs false
set_option linter.unusedVariables false
attribute [local go_sem] plus_size plus_drew dn_set dn_alloc dn_plus plus_dn cell_plus frozen_plus set_plus cell_alloc frozen_alloc set_alloc

/-- a list's block, whatever it holds -/
def Sh (T : World) (e : TypeId) (c : Nat) (w : World) (ao : Option Addr) (n : Nat) : Prop := n = 0 ∨ ∃ g cur, ao = some ⟨g, 0, none⟩ ∧ T.heap.size ≤ g ∧ w.heap[g]? = some (.cells cur e) ∧ n * c ≤ cur.size
theorem Own.sh {α : Type} {f : α → List Value} {w T : World} {ao : Option Addr} {n cap c : Nat} {l : List α} {e : TypeId} (h : Own e c f T w ao n cap l) : Sh T e c w ao n := by
  by_cases hn : n = 0
  · exact .inl hn
  · exact .inr (h.blk (by omega))
theorem blk_cell {w : World} {g i : Nat} {cur : Array Value} {e : TypeId} (h : w.heap[g]? = some (.cells cur e)) (hi : i < cur.size) : w.cell? ⟨g, i, none⟩ = some cur[i] := cell_blk h (by simp [hi])

/-- slots and handles in memory newer than T are written over; all else stays -/
structure Sp (T w w' : World) : Prop where
  os : w'.os = w.os
  tape : w'.tape = w.tape
  output : w'.output = w.output
  size : w.heap.size ≤ w'.heap.size
  blk : ∀ k, k < w.heap.size → w'.heap[k]? = w.heap[k]? ∨ (T.heap.size ≤ k ∧ ∃ c c' e, w.heap[k]? = some (.cells c e) ∧ w'.heap[k]? = some (.cells c' e) ∧ c'.size = c.size ∧ (e = 67 ∨ e = 29))
section
variable {T w w1 w2 : World}
theorem sp_grow (h : ∃ y, w1 = plus w y) : Sp T w w1 := by
  obtain ⟨y, rfl⟩ := h
  have hb := plus_below w y
  exact ⟨hb.os, hb.tape, hb.output, hb.size, fun k hk => .inl (hb.block k hk)⟩
theorem sp_trans (h1 : Sp T w w1) (h2 : Sp T w1 w2) : Sp T w w2 := by
  refine ⟨h2.os.trans h1.os, h2.tape.trans h1.tape, h2.output.trans h1.output, Nat.le_trans h1.size h2.size, fun k hk => ?_⟩
  rcases h1.blk k hk with e | ⟨a1, c, c', e, a2, a3, a4, a5⟩
  · rcases h2.blk k (Nat.lt_of_lt_of_le hk h1.size) with e' | ⟨b1, d, d', e', b2, b3, b4, b5⟩
    · exact .inl (e'.trans e)
    · exact .inr ⟨b1, d, d', e', e ▸ b2, b3, b4, b5⟩
  · rcases h2.blk k (Nat.lt_of_lt_of_le hk h1.size) with e' | ⟨b1, d, d', e', b2, b3, b4, b5⟩
    · exact .inr ⟨a1, c, c', e, a2, by rw [e']; exact a3, a4, a5⟩
    · rw [a3] at b2
      cases b2
      exact .inr ⟨a1, c, d', e, a2, b3, b4.trans a4, a5⟩
theorem sp_set {g i : Nat} {u : Value} {cur : Array Value} {e : TypeId} (hT : T.heap.size ≤ g) (hb : w.heap[g]? = some (.cells cur e)) (he : e = 67 ∨ e = 29) : Sp T w (w.setCell ⟨g, i, none⟩ u) := by
  refine ⟨rfl, rfl, rfl, by rw [size_set]; exact Nat.le_refl _, fun k _ => ?_⟩
  by_cases h : g = k
  · subst h
    exact .inr ⟨hT, cur, _, e, hb, blk_set_eq hb, by rw [Array.size_setIfInBounds], he⟩
  · exact .inl (blk_set_ne h)
theorem sp_ex (h : Sp T w w1) (hw : ∃ y, w = plus T y) : ∃ y, w1 = plus T y := by
  obtain ⟨y, rfl⟩ := hw
  apply below_plus
  have hb := plus_below T y
  refine ⟨h.os.trans hb.os, h.tape.trans hb.tape, h.output.trans hb.output, Nat.le_trans hb.size h.size, fun n hn => ?_⟩
  rcases h.blk n (Nat.lt_of_lt_of_le hn hb.size) with e | ⟨h1, _⟩
  · rw [e]; exact hb.block n hn
  · omega
theorem sp_blk {k : Nat} {c : Array Value} {e : TypeId} (h : Sp T w w1) (hk : w.heap[k]? = some (.cells c e)) (h1 : e ≠ 67) (h2 : e ≠ 29) : w1.heap[k]? = some (.cells c e) := by
  rcases h.blk k (blk_lt hk) with e1 | ⟨_, d, d', e', b2, _, _, b5⟩
  · rw [e1]; exact hk
  · rw [hk] at b2
    cases b2
    rcases b5 with b5 | b5
    · exact absurd b5 h1
    · exact absurd b5 h2
theorem Sh.sp {ao : Option Addr} {n c : Nat} {e : TypeId} (hs : Sh T e c w ao n) (h : Sp T w w1) : Sh T e c w1 ao n := by
  refine hs.imp id ?_
  rintro ⟨k, cur, h1, h2, h3, h4⟩
  rcases h.blk k (blk_lt h3) with e1 | ⟨_, d, d', e', b2, b3, b4, _⟩
  · exact ⟨k, cur, h1, h2, by rw [e1]; exact h3, h4⟩
  · rw [h3] at b2
    cases b2
    exact ⟨k, d', h1, h2, b3, by rw [b4]; exact h4⟩
theorem Own.sp {α : Type} {f : α → List Value} {ao : Option Addr} {n cap c : Nat} {l : List α} {e : TypeId} {T' : World} (h : Own e c f T' w ao n cap l) (hp : Sp T w w1) (h1 : e ≠ 67) (h2 : e ≠ 29) : Own e c f T' w1 ao n cap l := by
  refine ⟨h.1, h.2.1, h.2.2.imp id ?_⟩
  rintro ⟨k, cp, cu, a1, a2, a3, a4⟩
  exact ⟨k, cp, cu, a1, a2, sp_blk hp a3 h1 h2, a4⟩
end

/-- the shape of a graph in memory newer than T, whatever its slots and handles hold -/
structure ShG (T w : World) (ao : Option Addr) (n : Nat) (ko : Option Addr) (kn kcap : Nat) (hs : List RH) : Prop where
  s : Sh T 67 2 w ao n
  kh : Own 36 1 fR T w ko kn kcap hs
  r : ∀ k, k < kn → Sh T 29 2 w (nth dRH hs k).ao (nth dRH hs k).n
  n1 : n ≤ 10000
  n2 : kn ≤ 10000
  n3 : ∀ k, k < kn → (nth dRH hs k).n ≤ 10000
theorem ShG.sp {T w w1 : World} {ao ko : Option Addr} {n kn kcap : Nat} {hs : List RH} (h : ShG T w ao n ko kn kcap hs) (hp : Sp T w w1) : ShG T w1 ao n ko kn kcap hs :=
  ⟨h.s.sp hp, h.kh.sp hp (by decide) (by decide), fun k hk => (h.r k hk).sp hp, h.n1, h.n2, h.n3⟩
theorem GrOwn.sh {T T' w : World} {ao ko : Option Addr} {n cap kn kcap : Nat} {hs : List RH} {g : Gr} (h : GrOwn T w ao n cap ko kn kcap hs g) (hT : T'.heap.size ≤ T.heap.size) (h1 : n ≤ 10000) (h2 : kn ≤ 10000) (h3 : ∀ k, k < g.ks.length → (nth [] g.ks k).length ≤ 10000) : ShG T' w ao n ko kn kcap hs := by
  have h' := h.base hT
  refine ⟨h'.sl.sh, h'.kh, fun k hk => (h'.row k (by rw [h'.kh.1]; exact hk)).sh, h1, h2, fun k hk => ?_⟩
  have hk' : k < hs.length := by rw [h'.kh.1]; exact hk
  rw [← (h'.row k hk').1]
  exact h3 k (by rw [← h'.len]; exact hk')

set_option maxRecDepth 100000 in
set_option maxHeartbeats 8000000 in
theorem spoil_calls (T : World) (ao : Option Addr) (n cap : Nat) (ko : Option Addr) (kn kcap : Nat) (hs : List RH) (w : World) (hS : ShG T w ao n ko kn kcap hs) :
    Calls Try.prog 27 #[.agg #[.slice ao n cap, .slice ko kn kcap]] w fun e w' => e = .returned (.tuple #[]) ∧ Sp T w w' := by
  have b1 := hS.n1
  have b2 := hS.n2
  have hb0 : (w.alloc (.cells #[.slice ao n cap, .slice ko kn kcap] 27)).heap[w.heap.size]? = some (.cells #[.slice ao n cap, .slice ko kn kcap] 27) := by rw [blk_alloc, if_pos rfl]
  have hp0 : Sp T w (w.alloc (.cells #[.slice ao n cap, .slice ko kn kcap] 27)) := sp_grow (by with_reducible repeat (first | exact ex_refl _ | exact ex_more | apply ex_alloc | apply ex_plus | apply ex_drew | apply ex_drewN))
  go_enter Try.func27, Try.ntmps27
  go_wp2
  go_loopw [2] (fun i_ wr => ∃ i : Nat, i ≤ n ∧ i_ = .int .i64 i ∧ Sp T w wr ∧ wr.heap[w.heap.size]? = some (.cells #[.slice ao n cap, .slice ko kn kcap] 27)) (fun i_ _ => n - (intOf i_).toNat)
  case atStart => exact ⟨0, Nat.zero_le _, rfl, hp0, hb0⟩
  case round =>
    clear hp0 hb0
    obtain ⟨i, hi, rfl, hp, hb⟩ := hrel
    have v0 := cell_blk (i := 0) hb rfl
    have v1 := cell_blk (i := 1) hb rfl
    by_cases hil : i < n
    · have ii : (i : Int) < (n : Int) := by omega
      obtain ⟨sg, cur, rfl, hT, hsb, hsz⟩ := (hS.s.sp hp).resolve_left (by omega)
      have c0 := blk_cell (i := i * 2) hsb (by omega)
      have z0 := frozen_blk (i := i * 2) hsb
      have hne : sg ≠ w.heap.size := by
        intro e0
        rw [e0, hb] at hsb
        cases hsb
      go_wp2
      go_roundw
      case rel => exact ⟨i + 1, by omega, by go_num, sp_trans hp (sp_set hT hsb (.inl rfl)), (blk_set_ne hne).trans hb⟩
      case measure => simp [intOf]; omega
    have ii : ¬ (i : Int) < (n : Int) := by omega
    go_wp2
    go_loopw [3] (fun i_ wr => ∃ i : Nat, i ≤ kn ∧ i_ = .int .i64 i ∧ Sp T w wr ∧ wr.heap[w.heap.size]? = some (.cells #[.slice ao n cap, .slice ko kn kcap] 27)) (fun i_ _ => kn - (intOf i_).toNat)
    case atStart => exact ⟨0, Nat.zero_le _, rfl, hp, hb⟩
    case round =>
      clear hp hb v0 v1
      obtain ⟨j, hj, rfl, hp, hb⟩ := hrel
      have v0 := cell_blk (i := 0) hb rfl
      have v1 := cell_blk (i := 1) hb rfl
      by_cases hjl : j < kn
      rotate_left
      · have ij : ¬ (j : Int) < (kn : Int) := by omega
        go_wp2
        first | exact bodyPost_end (by simp [results, Try.results27, go_sem]) rfl ⟨rfl, hp⟩ | exact bodyPost_ret (v := .tuple #[]) (by simp [results, Try.results27, go_sem]) rfl ⟨rfl, hp⟩
      have ij : (j : Int) < (kn : Int) := by omega
      obtain ⟨kb, _, rfl, _, _, _⟩ := hS.kh.blk (by omega)
      have hn3 := hS.n3 j hjl
      obtain ⟨_, _, e0, _, hkc⟩ := (hS.kh.sp hp (by decide) (by decide)).lay.some (by omega)
      cases e0
      have h0 := cellR hS.kh.1 hkc hjl
      rw [Nat.zero_add] at h0
      go_wp2
      go_loopw [4] (fun i_ wz => ∃ k : Nat, k ≤ (nth dRH hs j).n ∧ i_ = .int .i64 k ∧ Sp T w wz ∧ wz.heap[w.heap.size]? = some (.cells #[.slice ao n cap, .slice (some ⟨kb, 0, none⟩) kn kcap] 27)) (fun i_ _ => (nth dRH hs j).n - (intOf i_).toNat)
      case atStart => exact ⟨0, Nat.zero_le _, rfl, hp, hb⟩
      case round =>
        clear hp hb v0 v1 h0 hkc
        obtain ⟨k, hk, rfl, hp, hb⟩ := hrel
        have v0 := cell_blk (i := 0) hb rfl
        have v1 := cell_blk (i := 1) hb rfl
        obtain ⟨_, _, e0, _, hkc⟩ := (hS.kh.sp hp (by decide) (by decide)).lay.some (by omega)
        cases e0
        have h0 := cellR hS.kh.1 hkc hjl
        rw [Nat.zero_add] at h0
        by_cases hkl : k < (nth dRH hs j).n
        rotate_left
        · have ik : ¬ (k : Int) < ((nth dRH hs j).n : Int) := by omega
          go_wp2
          go_roundw
          case rel => exact ⟨j + 1, by omega, by go_num, hp, hb⟩
          case measure => simp [intOf]; omega
        have ik : (k : Int) < ((nth dRH hs j).n : Int) := by omega
        obtain ⟨rg, cur, hra, hT, hrb, hsz⟩ := ((hS.r j hjl).sp hp).resolve_left (by omega)
        rw [hra] at h0
        have c0 := blk_cell (i := k * 2 + 1) hrb (by omega)
        have z0 := frozen_blk (i := k * 2 + 1) hrb
        have hne : rg ≠ w.heap.size := by
          intro e0
          rw [e0, hb] at hrb
          cases hrb
        go_wp2
        go_roundw
        case rel => exact ⟨k + 1, by omega, by go_num, sp_trans hp (sp_set hT hrb (.inr rfl)), (blk_set_ne hne).trans hb⟩
        case measure => simp [intOf]; omega

theorem countTo {l : List (Int × Int)} {h : Int × Int} {k : Nat} (hk : k < l.length) : countH (l.take (k + 1)) h = countH (l.take k) h + (if nth (0, 0) l k = h then 1 else 0) := by
  unfold countH
  rw [take_nth (d := ((0, 0) : Int × Int)) hk, List.filter_append, List.length_append]
  congr 1
  split
  · rename_i e; simp [e]
  · rename_i e; simp [e]
theorem count_le (l : List (Int × Int)) (h : Int × Int) : countH l h ≤ l.length := List.length_filter_le _ _

set_option maxHeartbeats 4000000 in
theorem count_calls (ao : Option Addr) (n cap : Nat) (l : List (Int × Int)) (s g : Int) (w : World) (hl : Lay f2 w ao n l) (hn : n ≤ 100000) :
    Calls Try.prog 35 #[.slice ao n cap, .agg #[.int .i64 s, .int .i64 g]] w fun e w' => e = .returned (.int .i64 (countH l (s, g))) ∧ Below w.heap.size w w' := by
  have hlen := hl.len
  go_enter Try.func35, Try.ntmps35
  go_wp2
  go_loopw [5, 6] (fun m i wr => ∃ k : Nat, k ≤ n ∧ m = .int .i64 (countH (l.take k) (s, g)) ∧ i = .int .i64 k ∧ ∃ x, wr = plus (w.alloc (.cells #[.int .i64 s, .int .i64 g] 29)) x) (fun _ i _ => n - (intOf i).toNat)
  case atStart => exact ⟨0, Nat.zero_le _, rfl, rfl, (by with_reducible repeat (first | exact ex_refl _ | exact ex_more | apply ex_alloc | apply ex_plus | apply ex_drew | apply ex_drewN))⟩
  case round =>
    obtain ⟨k, hk, rfl, rfl, x, rfl⟩ := hrel
    by_cases hkl : k < n
    rotate_left
    · have ik : ¬ (k : Int) < (n : Int) := by omega
      obtain rfl : k = n := by omega
      go_wp2
      go_ret
      exact ⟨by rw [List.take_of_length_le (by omega)]; rfl, by with_reducible repeat (first | exact Below.refl _ _ | apply ba | apply bp | apply bd | apply bn)⟩
    have ik : (k : Int) < (n : Int) := by omega
    obtain ⟨g1, o1, rfl, hg1, hc1⟩ := hl.some (by omega)
    obtain ⟨c0, c1⟩ := cell2 hlen hc1 hkl
    have hsucc := countTo (h := (s, g)) (show k < l.length by omega)
    have hcl := count_le (l.take k) (s, g)
    rw [List.length_take] at hcl
    have iw : IntKind.i64.wrap ((countH (l.take k) (s, g) : Int) + 1) = (countH (l.take k) (s, g) : Int) + 1 := wrap_le (by omega)
    by_cases e0 : (nth (0, 0) l k).1 = s
    rotate_left
    · have d0 : ((nth (0, 0) l k).1 == s) = false := by rw [beq_eq_false_iff_ne]; exact e0
      rw [if_neg (fun e => e0 (by rw [e])), Nat.add_zero] at hsucc
      go_wp2
      refine region_plus (by kernel_rfl) (by kernel_rfl) ?_
      (repeat (go_big_quiet_step (fail)))
      refine wpQuiet_nil ?_
      rintro _ ⟨x2, rfl⟩
      go_wp2
      go_roundw
      case rel => exact ⟨k + 1, by omega, by first | (rw [hsucc]; done) | simp [hsucc], by go_num, (by with_reducible repeat (first | exact ex_refl _ | exact ex_more | apply ex_alloc | apply ex_plus | apply ex_drew | apply ex_drewN))⟩
      case measure => simp [intOf]; omega
    by_cases e1 : (nth (0, 0) l k).2 = g
    rotate_left
    · have d1 : ((nth (0, 0) l k).2 == g) = false := by rw [beq_eq_false_iff_ne]; exact e1
      rw [if_neg (fun e => e1 (by rw [e])), Nat.add_zero] at hsucc
      go_wp2
      refine region_plus (by kernel_rfl) (by kernel_rfl) ?_
      (repeat (go_big_quiet_step (fail)))
      refine wpQuiet_nil ?_
      rintro _ ⟨x2, rfl⟩
      go_wp2
      go_roundw
      case rel => exact ⟨k + 1, by omega, by first | (rw [hsucc]; done) | simp [hsucc], by go_num, (by with_reducible repeat (first | exact ex_refl _ | exact ex_more | apply ex_alloc | apply ex_plus | apply ex_drew | apply ex_drewN))⟩
      case measure => simp [intOf]; omega
    rw [if_pos (Prod.ext e0 e1)] at hsucc
    go_wp2
    refine region_plus (by kernel_rfl) (by kernel_rfl) ?_
    (repeat (go_big_quiet_step (fail)))
    refine wpQuiet_nil ?_
    rintro _ ⟨x2, rfl⟩
    go_wp2
    go_roundw
    case rel => exact ⟨k + 1, by omega, by rw [hsucc]; go_num, by go_num, (by with_reducible repeat (first | exact ex_refl _ | exact ex_more | apply ex_alloc | apply ex_plus | apply ex_drew | apply ex_drewN))⟩
    case measure => simp [intOf]; omega

end Go.Proofs.Ytmmflpjfgapaaaa
