/- A pack of texts: Own2, Tail, Rel, Rel2, Lay2. -/
import Derived.Laws.OwnMore
import Derived.StillTail
import Derived.Test.YtcekcihijdipoaaGreatPT2
import Derived.Test.YtcekcihijdipoaaGreatPT1
namespace Go.Proofs.YtcekcihijdipoaaGreat

section


open Go.RowKit

theorem blk_alloc (w : World) (o : Obj) (g : Nat) : (w.alloc o).heap[g]? = if g = w.heap.size then some o else w.heap[g]? := by
  show (w.heap.push o)[g]? = _
  rw [Array.getElem?_push]

theorem cell_blk {w : World} {g i : Nat} {c : Array Value} {t : TypeId} {u : Value} (h : w.heap[g]? = some (.cells c t)) (hi : c[i]? = some u) : w.cell? ⟨g, i, none⟩ = some u := by
  simp [World.cell?, h, hi]

theorem frozen_blk {w : World} {g i : Nat} {c : Array Value} {t : TypeId} (h : w.heap[g]? = some (.cells c t)) : w.frozen? ⟨g, i, none⟩ = false := by
  simp [World.frozen?, h]

theorem blk_lt {w : World} {g : Nat} {o : Obj} (h : w.heap[g]? = some o) : g < w.heap.size := (Array.getElem?_eq_some_iff.1 h).1

theorem blk_ex {w w' : World} {g : Nat} {o : Obj} (hw : ∃ y, w' = plus w y) (h : w.heap[g]? = some o) : w'.heap[g]? = some o := by
  obtain ⟨y, rfl⟩ := hw
  rw [plus_block _ _ _ (blk_lt h)]
  exact h

theorem blk_set_ne {w : World} {g k i : Nat} {u : Value} (h : g ≠ k) : (w.setCell ⟨g, i, none⟩ u).heap[k]? = w.heap[k]? := by
  unfold World.setCell
  simp [Array.getElem?_modify, h]

theorem blk_set_eq {w : World} {g i : Nat} {u : Value} {c : Array Value} {t : TypeId} (h : w.heap[g]? = some (.cells c t)) : (w.setCell ⟨g, i, none⟩ u).heap[g]? = some (.cells (c.setIfInBounds i u) t) := by
  unfold World.setCell
  simp [Array.getElem?_modify, h]

theorem size_set (w : World) (g i : Nat) (u : Value) : (w.setCell ⟨g, i, none⟩ u).heap.size = w.heap.size := by
  unfold World.setCell
  simp

theorem ex_set_new {w T : World} {g i : Nat} {u : Value} (hw : ∃ y, w = plus T y) (hg : T.heap.size ≤ g) : ∃ y, w.setCell ⟨g, i, none⟩ u = plus T y := by
  obtain ⟨y, rfl⟩ := hw
  apply below_plus
  have hb := plus_below T y
  refine ⟨hb.os, hb.tape, hb.output, by rw [size_set]; exact hb.size, fun n hn => ?_⟩
  rw [blk_set_ne (by omega)]
  exact hb.block n hn

section

variable {α : Type} {f : α → List Value} {w T : World} {ao : Option Addr} {n cap c g i : Nat} {l : List α} {e e' : TypeId} {cur : Array Value} {u : Value}

theorem Own.set_other (h : Own e c f T w ao n cap l) (hb : w.heap[g]? = some (.cells cur e')) (he : e' ≠ e) : Own e c f T (w.setCell ⟨g, i, none⟩ u) ao n cap l := by
  refine ⟨h.1, h.2.1, h.2.2.imp id ?_⟩
  rintro ⟨k, cp, cu, h1, h2, h3, h4⟩
  refine ⟨k, cp, cu, h1, h2, ?_, h4⟩
  have hne : g ≠ k := by
    intro e2
    subst e2
    rw [hb] at h3
    cases h3
    exact he rfl
  rw [blk_set_ne hne]
  exact h3

theorem Own.blk (h : Own e c f T w ao n cap l) (hn : 0 < n) : ∃ g cur, ao = some ⟨g, 0, none⟩ ∧ T.heap.size ≤ g ∧ w.heap[g]? = some (.cells cur e) ∧ n * c ≤ cur.size := by
  rcases h.2.2 with ⟨_, h0⟩ | ⟨k, cp, cu, h1, h2, h3, h4, _, h5, _⟩
  · omega
  · simp only [Value.slice.injEq] at h1
    refine ⟨k, cu, h1.1, h2, h3, ?_⟩
    rw [h5]
    exact Nat.mul_le_mul_right _ h4

theorem Own.set_self (h : Own e c f T w (some ⟨g, 0, none⟩) n cap l) (k j : Nat) (x d : α) (hk : k < n) (hc : ∀ x, (f x).length = c) (hj : j < c) (hx : f x = (f (nth d l k)).set j u) :
    Own e c f T (w.setCell ⟨g, k * c + j, none⟩ u) (some ⟨g, 0, none⟩) n cap (l.set k x) := by
  have h2 := World.ownsRow.stored h.2 (k * c + j) u
  refine ⟨by rw [List.length_set]; exact h.1, ?_⟩
  have e1 : (l.set k x).flatMap f = (l.flatMap f).set (k * c + j) u := by
    have hkl : k < l.length := by rw [h.1]; exact hk
    apply List.ext_getElem?
    intro q
    by_cases hq : q < n * c
    · have hc0 : 0 < c := by omega
      have hqn : q / c < n := (Nat.div_lt_iff_lt_mul hc0).2 hq
      have e2 : q / c * c + q % c = q := by rw [Nat.mul_comm]; exact Nat.div_add_mod q c
      have hqm := Nat.mod_lt q hc0
      rw [List.getElem?_set]
      have e3 : ((l.set k x).flatMap f)[q]? = (f ((l.set k x)[q / c]'(by rw [List.length_set, h.1]; exact hqn)))[q % c]? := by
        have := flat_at hc (l.set k x) (q / c) (by rw [List.length_set, h.1]; exact hqn) (q % c) hqm
        rwa [e2] at this
      have e4 : (l.flatMap f)[q]? = (f (l[q / c]'(by rw [h.1]; exact hqn)))[q % c]? := by
        have := flat_at hc l (q / c) (by rw [h.1]; exact hqn) (q % c) hqm
        rwa [e2] at this
      rw [e3, e4, List.getElem_set]
      by_cases ek : k = q / c
      · rw [if_pos ek, hx, List.getElem?_set]
        have e5 : nth d l k = l[q / c]'(by rw [h.1]; exact hqn) := by
          subst ek
          rw [nth_eq hkl]
        rw [e5]
        have hlen : j < (f (l[q / c]'(by rw [h.1]; exact hqn))).length := by rw [hc]; exact hj
        have hlen2 : k * c + j < (l.flatMap f).length := by
          rw [flat_length hc, h.1]
          have : k * c + j < (k + 1) * c := by rw [Nat.succ_mul]; omega
          exact Nat.lt_of_lt_of_le this (Nat.mul_le_mul_right c hk)
        by_cases ej : j = q % c
        · rw [if_pos ej, if_pos hlen, if_pos (show k * c + j = q by rw [ek, ej]; exact e2), if_pos hlen2]
        · rw [if_neg ej, if_neg (by rw [ek]; intro e6; exact ej (Nat.add_left_cancel (e6.trans e2.symm)))]
      · rw [if_neg ek, if_neg]
        intro e6
        apply ek
        rw [← e6, Nat.add_comm, Nat.add_mul_div_right _ _ hc0, Nat.div_eq_of_lt hj, Nat.zero_add]
    · rw [List.getElem?_eq_none (by rw [flat_length hc, List.length_set, h.1]; omega), List.getElem?_eq_none (by rw [List.length_set, flat_length hc, h.1]; omega)]
  rw [e1]
  exact h2.1

theorem Own.none_zero (h : Own e c f T w ao n cap l) : ao = none → n = 0 ∧ cap = 0 := by
  intro e0
  rcases h.2.2 with ⟨h1, h0⟩ | ⟨k, cp, cu, h1, _⟩
  · simp only [Value.slice.injEq] at h1
    exact ⟨h0, h1.2.2⟩
  · simp only [Value.slice.injEq, e0] at h1
    cases h1.1

theorem nth_set {d x : α} {k j : Nat} (hk : k < l.length) : nth d (l.set k x) j = if j = k then x else nth d l j := by
  unfold nth
  by_cases e : j = k
  · subst e
    simp [hk]
  · have e' : ¬ k = j := fun h => e h.symm
    simp [e, e']

end

end

section


open Go.RowKit

section

variable {P : Program} {md : Region.Mode} {C : World → Prop} {l : List Oper} {n : Nat}

def backB (md : Region.Mode) (l : List Oper) (n : Nat) : Bool :=
  (List.range n).all fun i => match l[i]? with
    | some o => (o.after.all fun e => !Region.binds md e || decide (e.on < i)) && (match o.guard with | some (j, _) => decide (j < n) | none => true)
    | none => true

def deepB (md : Region.Mode) (ops : Array Oper) (n : Nat) : Nat → Nat → Nat → Bool
  | 0, t, i => Region.waitsFor md ops t i
  | f + 1, t, i => Region.waitsFor md ops t i || (List.range n).any fun j => Region.waitsFor md ops t j && deepB md ops n f j i

def waitB (md : Region.Mode) (l : List Oper) (n : Nat) : Bool :=
  (List.range l.length).all fun t => decide (t < n) || (List.range n).all fun i => deepB md l.toArray n 2 t i

def Shut (md : Region.Mode) (ops : Array Oper) (n : Nat) (L : Array Bool) : Prop :=
  ∀ j i, j < n → L.getD j false = true → Region.waitsFor md ops j i = true → L.getD i false = true

theorem deep_listed {ops : Array Oper} {L : Array Bool} (hS : Shut md ops n L) : ∀ f t i, (∀ j, Region.waitsFor md ops t j = true → L.getD j false = true) → deepB md ops n f t i = true → L.getD i false = true := by
  intro f
  induction f with
  | zero => intro t i ht h; exact ht i h
  | succ f ih =>
    intro t i ht h
    simp only [deepB, Bool.or_eq_true] at h
    rcases h with h | h
    · exact ht i h
    · obtain ⟨j, hj, h2⟩ := List.any_eq_true.1 h
      simp only [Bool.and_eq_true] at h2
      exact ih j i (fun k hk => hS j k (List.mem_range.1 hj) (ht j h2.1) hk) h2.2

theorem back_spec (h : backB md l n = true) {i : Nat} {o : Oper} (hi : i < n) (ho : l[i]? = some o) : (∀ e ∈ o.after, Region.binds md e = true → e.on < i) ∧ ∀ j b, o.guard = some (j, b) → j < n := by
  have h1 := List.all_eq_true.1 h i (List.mem_range.2 hi)
  simp only [ho, Bool.and_eq_true] at h1
  refine ⟨fun e he hbd => ?_, fun j b hg => ?_⟩
  · have := Array.all_eq_true'.1 h1.1 e he
    simpa [hbd] using this
  · have h2 := h1.2
    rw [hg] at h2
    simpa using h2

theorem wait_spec (h : waitB md l n = true) {t i : Nat} (ht : n ≤ t) (htl : t < l.length) (hi : i < n) : deepB md l.toArray n 2 t i = true := by
  have h1 := List.all_eq_true.1 h t (List.mem_range.2 htl)
  simp only [Bool.or_eq_true, decide_eq_true_eq] at h1
  rcases h1 with h1 | h1
  · omega
  · exact List.all_eq_true.1 h1 i (List.mem_range.2 hi)

theorem head_get (i : Nat) (hi : i < n) : (l.take n).toArray[i]? = l.toArray[i]? := by
  simp [hi]

theorem wanted_head (h : backB md l n = true) {i : Nat} {o : Oper} (hi : i < n) (ho : l[i]? = some o) (t : Array Value) :
    Region.wanted o (yielded (l.take n).toArray t) = Region.wanted o (yielded l.toArray t) := by
  unfold Region.wanted
  cases hg : o.guard with
  | none => rfl
  | some g =>
    obtain ⟨j, b⟩ := g
    have hj := (back_spec h hi ho).2 j b hg
    show (yielded (l.take n).toArray t j == some b) = (yielded l.toArray t j == some b)
    unfold yielded
    rw [head_get j hj]

theorem qOp_head (h : backB md l n = true) {i : Nat} (hi : i < n) {K : Act → Prop} {a : Act} (hq : qOp P (l.take n).toArray C i K a) : qOp P l.toArray C i K a := by
  unfold qOp at *
  rw [head_get i hi] at hq
  cases ho : l.toArray[i]? with
  | none => simpa [ho] using hq
  | some o =>
    simp only [ho] at hq ⊢
    rw [wanted_head h hi (by simpa using ho)] at hq
    exact hq

theorem getD_left (L : Array Bool) (m i : Nat) (d : Bool) (hi : i < L.size) : (L ++ Array.replicate m false).getD i d = L.getD i d := by
  simp [hi, Array.getElem?_append]

theorem getD_app (L : Array Bool) (m j : Nat) (h : (L ++ Array.replicate m false).getD j false = true) : L.getD j false = true := by
  by_cases hj : j < L.size
  · rwa [getD_left _ _ _ _ hj] at h
  · simp only [Array.getD_eq_getD_getElem?, Array.getElem?_append, if_neg hj] at h
    by_cases h2 : j - L.size < m
    · simp [h2] at h
    · simp [h2] at h

theorem getD_set (L : Array Bool) (i j : Nat) (h : L.getD j false = true) : (L.setIfInBounds i true).getD j false = true := by
  simp only [Array.getD_eq_getD_getElem?, Array.getElem?_setIfInBounds] at *
  by_cases e : i = j
  · subst e
    by_cases hi : i < L.size
    · simp [hi]
    · simp [hi] at h
  · simpa [e] using h

theorem getD_unset (L : Array Bool) (i j : Nat) (e : i ≠ j) (h : (L.setIfInBounds i true).getD j false = true) : L.getD j false = true := by
  simp only [Array.getD_eq_getD_getElem?, Array.getElem?_setIfInBounds] at *
  simpa [e] using h

theorem set_left (L : Array Bool) (m i : Nat) (hi : i < L.size) : (L ++ Array.replicate m false).setIfInBounds i true = L.setIfInBounds i true ++ Array.replicate m false := by
  apply Array.ext_getElem?
  intro k
  simp only [Array.getElem?_setIfInBounds, Array.getElem?_append, Array.size_append, Array.size_setIfInBounds, Array.size_replicate]
  by_cases hk : i = k
  · subst hk; simp [hi]; omega
  · simp [hk]

theorem ready_some (hb : backB md l n = true) (hn : n ≤ l.length) (L : Array Bool) (hL : L.size = n) (i : Nat) (hi : L.getD i true = false) :
    ∃ k, k ∈ Region.ready md (l.take n).toArray L := by
  induction i using Nat.strongRecOn with
  | _ i ih =>
    have hin : i < n := by
      rcases Nat.lt_or_ge i L.size with h | h
      · omega
      · simp [Array.getElem?_eq_none h] at hi
    have hil : i < l.length := by omega
    have ho : l[i]? = some l[i] := List.getElem?_eq_getElem hil
    by_cases hall : ∀ e ∈ l[i].after, Region.binds md e = true → L.getD e.on false = true
    · exact ⟨i, mem_ready.2 ⟨hi, l[i], by rw [head_get i hin]; simp, hall⟩⟩
    · obtain ⟨e, he, hbd, hcond⟩ : ∃ e, e ∈ l[i].after ∧ Region.binds md e = true ∧ L.getD e.on false = false := by
        apply Classical.byContradiction
        intro hne
        apply hall
        intro e he hbd
        cases hg : L.getD e.on false with
        | true => rfl
        | false => exact absurd ⟨e, he, hbd, hg⟩ hne
      have hlt := (back_spec hb hin ho).1 e he hbd
      exact ih e.on hlt (getD_in (by omega) hcond)

theorem tail_any {Q : Exit → Act → World → Prop} (hb : backB md l n = true) (hw : waitB md l n = true) (hn : n ≤ l.length)
    (hs : Region.seqB md l.toArray (l.length - n) n (Array.replicate n true ++ Array.replicate (l.length - n) false) = true) :
    ∀ (f : Nat) (L : Array Bool) (a : Act) (w : World), L.size = n → L.count false = f → Shut md l.toArray n L → C w →
      wpAnyQ P md (l.take n).toArray C (fun a' => ∀ w', C w' → wpList P l.toArray Q (l.drop n) a' w') f L a →
      wpAny P md l.toArray Q (f + (l.length - n)) (L ++ Array.replicate (l.length - n) false) a w := by
  intro f
  induction f with
  | zero =>
    intro L a w hL hc hS hC h
    have e : L = Array.replicate n true := by
      apply Array.ext (by simpa using hL)
      intro i h1 h2
      simp only [Array.getElem_replicate]
      cases hv : L[i] with
      | true => rfl
      | false => exact absurd (hv ▸ Array.getElem_mem h1) (Array.count_eq_zero.1 hc)
    rw [e, Nat.zero_add]
    have hd : (l.drop n).length = l.length - n := by simp
    have := wpAny_of_seq (P := P) (md := md) (ops := l.toArray) (Q' := Q) (l.drop n) n (Array.replicate n true ++ Array.replicate (l.length - n) false) a w (fun j => by simp [List.getElem?_drop]) (by rw [hd]; exact hs) (h.2 w hC)
    rwa [hd] at this
  | succ f ih =>
    intro L a w hL hc hS hC h
    rw [show f + 1 + (l.length - n) = (f + (l.length - n)) + 1 by omega]
    have hex : ∃ i, L.getD i true = false := by
      have : 0 < L.count false := by omega
      obtain ⟨i, h1, h2⟩ := Array.mem_iff_getElem.1 (Array.count_pos_iff.1 this)
      exact ⟨i, by simp [h1, h2]⟩
    obtain ⟨u, hu⟩ := hex
    obtain ⟨k, hk⟩ := ready_some (md := md) hb hn L hL u hu
    have part : ∀ i, i ∈ Region.ready md l.toArray (L ++ Array.replicate (l.length - n) false) → i < n ∧ i ∈ Region.ready md (l.take n).toArray L := by
      intro i hi
      obtain ⟨h1, o, ho, h2⟩ := mem_ready.1 hi
      have hil : i < l.length := by
        have := (Array.getElem?_eq_some_iff.1 ho).1
        simpa using this
      by_cases hin : i < n
      · refine ⟨hin, mem_ready.2 ⟨by rw [getD_left _ _ _ _ (by omega)] at h1; exact h1, o, by rw [head_get i hin]; exact ho, fun e he hbd => ?_⟩⟩
        have hlt := (back_spec hb hin (by simpa using ho)).1 e he hbd
        have := h2 e he hbd
        rwa [getD_left _ _ _ _ (by omega)] at this
      · have hun : u < n := by
          rcases Nat.lt_or_ge u L.size with h | h
          · omega
          · simp [Array.getElem?_eq_none h] at hu
        have h3 := deep_listed hS 2 i u (fun j hj => by
          obtain ⟨o', ho', e, he, hbd, hon⟩ := Region.waitsFor_spec hj
          have : o' = o := Option.some.inj (ho'.symm.trans ho)
          subst this
          have h3 := h2 e he hbd
          rw [hon] at h3
          exact getD_app _ _ _ h3) (wait_spec hw (by omega) hil hun)
        rw [getD_both hu] at h3
        cases h3
    have hkn : k < n := by
      obtain ⟨h1, o, ho, _⟩ := mem_ready.1 hk
      have := (Array.getElem?_eq_some_iff.1 ho).1
      simp at this
      omega
    have back : k ∈ Region.ready md l.toArray (L ++ Array.replicate (l.length - n) false) := by
      obtain ⟨h1, o, ho, h2⟩ := mem_ready.1 hk
      rw [head_get k hkn] at ho
      refine mem_ready.2 ⟨by rw [getD_left _ _ _ _ (by omega)]; exact h1, o, ho, fun e he hbd => ?_⟩
      have hlt := (back_spec hb hkn (by simpa using ho)).1 e he hbd
      rw [getD_left _ _ _ _ (by omega)]
      exact h2 e he hbd
    refine ⟨fun h0 => (by rw [h0] at back; cases back), fun i hi => ?_⟩
    obtain ⟨hin, hr⟩ := part i hi
    have hun := (mem_ready.1 hr).1
    refine wpOp_of_qOp hC (fun a' w' hC' hk' => ?_) (qOp_head hb hin (h.2 i hr))
    rw [set_left _ _ _ (by omega)]
    refine ih _ a' w' (by simpa using hL) ?_ ?_ hC' hk'
    rotate_left
    · intro j k hj hlj hwt
      by_cases e : i = j
      · subst e
        obtain ⟨_, o, ho, h2⟩ := mem_ready.1 hr
        obtain ⟨o', ho', e, he, hbd, hon⟩ := Region.waitsFor_spec hwt
        rw [head_get i hin] at ho
        have : o' = o := Option.some.inj (ho'.symm.trans ho)
        subst this
        have h3 := h2 e he hbd
        rw [hon] at h3
        exact getD_set _ _ _ h3
      · exact getD_set _ _ _ (hS j k hj (getD_unset _ _ _ e hlj) hwt)
    have hiL : i < L.size := by omega
    have hLi : L[i] = false := by simpa [hiL] using hun
    rw [Array.setIfInBounds_def, dif_pos hiL, Array.count_set]
    simp [hLi, hc]

def tailB (l : List Oper) (n : Nat) : Bool :=
  decide (n ≤ l.length) && Region.lexB .any (l.take n).toArray && backB .any l n && waitB .any l n &&
    Region.seqB .any l.toArray (l.length - n) n (Array.replicate n true ++ Array.replicate (l.length - n) false)

theorem region_tail {id : Nat} {Q : Exit → Act → World → Prop} {a : Act} {w : World} (n : Nat) (hm : P.follows .mixedOrders = true) (hB : tailB l n = true)
    (h : wpQuiet P (l.take n).toArray (fun w' => ∃ x, w' = plus w x) (fun a' => ∀ w', (∃ x, w' = plus w x) → wpList P l.toArray Q (l.drop n) a' w') (l.take n) a) :
    (Code.region id l.toArray true).wp P Q a w := by
  simp only [tailB, Bool.and_eq_true, decide_eq_true_eq] at hB
  obtain ⟨⟨⟨⟨hn, hlex⟩, hb⟩, hw⟩, hs⟩ := hB
  simp only [Region.lexB, Bool.and_eq_true] at hlex
  have hsz : (l.take n).toArray.size = n := by simp; omega
  have hlen : (l.take n).length = n := by simp; omega
  have h1 := wpAnyQ_lex (P := P) (md := .any) (C := fun w' => ∃ x, w' = plus w x) (Q := fun a' => ∀ w', (∃ x, w' = plus w x) → wpList P l.toArray Q (l.drop n) a' w') hlex.1 (l.take n) 0
    (Array.replicate n false) a (by simp) (by rw [hlen]; have := hlex.2; rwa [hsz] at this) h
  rw [hlen] at h1
  refine wp_region_any hm ?_
  have h2 := tail_any (Q := Q) hb hw hn hs n (Array.replicate n false) a { w with drawn := w.drawn + 1 } (by simp) (by simp) (fun j i _ hj _ => by by_cases h : j < n <;> simp [h] at hj) ⟨[⟨#[], w.drawn + 1⟩], by simp [plus, blocks, draws]⟩ h1
  have e1 : n + (l.length - n) = l.toArray.size := by simp; omega
  have e2 : Array.replicate n false ++ Array.replicate (l.length - n) false = Array.replicate l.toArray.size false := by
    rw [Array.replicate_append_replicate, e1]
  rw [e1, e2] at h2
  exact h2

end

end

section


open Go.RowKit

section

variable {P : Program} {md : Region.Mode} {ops : Array Oper} {Q : Exit → Act → World → Prop}

def unlisted (L : Array Bool) : List Nat := (List.range L.size).filter fun i => !(L.getD i true)

theorem unlisted_lt {L : Array Bool} {i : Nat} (h : L.getD i true = false) : (unlisted (L.setIfInBounds i true)).length < (unlisted L).length := by
  have hi : i < L.size := by
    rcases Nat.lt_or_ge i L.size with h' | h'
    · exact h'
    · simp [Array.getElem?_eq_none h'] at h
  have e : unlisted (L.setIfInBounds i true) = (unlisted L).filter (fun j => decide (j ≠ i)) := by
    unfold unlisted
    rw [List.filter_filter, Array.size_setIfInBounds]
    apply List.filter_congr
    intro j _
    by_cases hj : i = j
    · subst hj
      simp [hi]
    · have hj' : ¬ j = i := fun e => hj e.symm
      simp [hj, hj']
  rw [e, List.length_filter_lt_length_iff_exists]
  refine ⟨i, ?_, by simp⟩
  unfold unlisted
  rw [List.mem_filter]
  exact ⟨List.mem_range.2 hi, by rw [h]; rfl⟩

theorem wpAny_inv {I : Array Bool → Act → World → Prop} (hstep : ∀ L a w i, I L a w → i ∈ Region.ready md ops L → wpOp P ops Q i (fun a' w' => I (L.setIfInBounds i true) a' w') a w)
    (hend : ∀ L a w, I L a w → Region.ready md ops L = [] → Q .normal a w) :
    ∀ (fuel : Nat) (L : Array Bool) (a : Act) (w : World), (unlisted L).length ≤ fuel → I L a w → wpAny P md ops Q fuel L a w := by
  intro fuel
  induction fuel with
  | zero =>
    intro L a w hf h
    have hr : Region.ready md ops L = [] := by
      apply List.eq_nil_iff_forall_not_mem.2
      intro j hj
      have hj' := (mem_ready.1 hj).1
      have hlt := unlisted_lt hj'
      omega
    exact ⟨hr, hend _ _ _ h hr⟩
  | succ fuel ih =>
    intro L a w hf h
    refine ⟨fun h0 => hend _ _ _ h h0, fun i hi => wpOp_mono (fun a' w' h' => ih _ a' w' ?_ h') (hstep _ _ _ _ h hi)⟩
    have := unlisted_lt (mem_ready.1 hi).1
    omega

def got (a : Act) (s : Nat) : Value := a.tmps.getD s undef

def upd (t : Nat → Value) (d : Option Tmp) (v : Value) (s : Nat) : Value := if d = some s then v else t s

theorem got_put {a : Act} {d : Option Tmp} {v : Value} (h : ∀ s, d = some s → s < a.tmps.size) : got (a.put d v) = upd (got a) d v := by
  funext s
  unfold got upd Act.put
  cases d with
  | none => simp
  | some d0 =>
    have := h d0 rfl
    by_cases e : d0 = s
    · subst e
      simp [this]
    · simp [e]

def putAll (t : Nat → Value) : List Oper → Act → Act
  | [], a => a
  | o :: r, a => putAll t r (match o.dst with | some d => a.put (some d) (t d) | none => a)

theorem putAll_size (t : Nat → Value) : ∀ (l : List Oper) (a : Act), (putAll t l a).tmps.size = a.tmps.size ∧ (putAll t l a).defers = a.defers
  | [], a => ⟨rfl, rfl⟩
  | o :: r, a => by
    unfold putAll
    have h := putAll_size t r (match o.dst with | some d => a.put (some d) (t d) | none => a)
    rw [h.1, h.2]
    cases o.dst <;> simp [Act.put]

theorem putAll_got (t : Nat → Value) (s : Nat) : ∀ (l : List Oper) (a : Act), s < a.tmps.size → got (putAll t l a) s = if (l.any fun o => o.dst == some s) then t s else got a s
  | [], a, _ => by simp [putAll]
  | o :: r, a, hs => by
    unfold putAll
    rw [putAll_got t s r _ (by cases o.dst <;> simpa [Act.put] using hs)]
    cases hd : o.dst with
    | none => simp [hd]
    | some d =>
      by_cases e : d = s
      · subst e
        simp [hd, got, Act.put, hs]
      · simp [hd, e, got, Act.put]

theorem act_ext {a b : Act} (hs : a.tmps.size = b.tmps.size) (hd : a.defers = b.defers) (h : ∀ s, s < a.tmps.size → got a s = got b s) : a = b := by
  obtain ⟨at', ad⟩ := a
  obtain ⟨bt, bd⟩ := b
  simp only at hs hd
  subst hd
  congr 1
  apply Array.ext hs
  intro i h1 h2
  have := h i h1
  simpa [got, h1, h2] using this

def relB (md : Region.Mode) (ops : Array Oper) (n : Nat) (S : Nat → List Nat) (m : Nat) : Bool :=
  (List.range ops.size).all fun i => match ops[i]? with
    | none => true
    | some o => o.guard.isNone && o.after.all (fun e => !Region.binds md e || decide (e.on < i)) && (match o.dst with | some d => decide (d < m) | none => true) &&
      (if i < n then (List.range ops.size).all fun j => i == j || (match (ops[j]?).bind (·.dst) with | some d => !((S i).contains d) || deepB md ops n 8 i j | none => true)
       else (List.range n).all fun j => deepB md ops n 8 i j)

structure RelFacts (md : Region.Mode) (ops : Array Oper) (n : Nat) (S : Nat → List Nat) (m : Nat) : Prop where
  guard : ∀ (i : Nat) (o : Oper), ops[i]? = some o → o.guard = none
  back : ∀ (i : Nat) (o : Oper), ops[i]? = some o → ∀ e ∈ o.after, Region.binds md e = true → e.on < i
  slot : ∀ (i : Nat) (o : Oper), ops[i]? = some o → ∀ d, o.dst = some d → d < m
  late : ∀ (i j : Nat) (o : Oper) (d : Nat), i < n → i < ops.size → ops[j]? = some o → o.dst = some d → d ∈ S i → i ≠ j → deepB md ops n 8 i j = true
  last : ∀ (i j : Nat), n ≤ i → i < ops.size → j < n → deepB md ops n 8 i j = true

theorem relB_facts {n m : Nat} {S : Nat → List Nat} (h : relB md ops n S m = true) : RelFacts md ops n S m := by
  have key : ∀ (i : Nat) (o : Oper), ops[i]? = some o → (((o.guard.isNone = true ∧ o.after.all (fun e => !Region.binds md e || decide (e.on < i)) = true) ∧ (match o.dst with | some d => decide (d < m) | none => true) = true) ∧
      (if i < n then (List.range ops.size).all fun j => i == j || (match (ops[j]?).bind (·.dst) with | some d => !((S i).contains d) || deepB md ops n 8 i j | none => true)
       else (List.range n).all fun j => deepB md ops n 8 i j) = true) := by
    intro i o ho
    have hi : i < ops.size := (Array.getElem?_eq_some_iff.1 ho).1
    have h1 := List.all_eq_true.1 h i (List.mem_range.2 hi)
    simp only [ho, Bool.and_eq_true] at h1
    exact h1
  refine ⟨fun i o ho => ?_, fun i o ho e he hb => ?_, fun i o ho d hd => ?_, fun i j o d hin hi ho hd hS hij => ?_, fun i j hin hi hj => ?_⟩
  · have := (key i o ho).1.1.1
    simpa using this
  · have := Array.all_eq_true'.1 (key i o ho).1.1.2 e he
    simpa [hb] using this
  · have := (key i o ho).1.2
    rw [hd] at this
    simpa using this
  · have h2 := (key i _ (Array.getElem?_eq_getElem hi)).2
    rw [if_pos hin] at h2
    have hj : j < ops.size := (Array.getElem?_eq_some_iff.1 ho).1
    have h3 := List.all_eq_true.1 h2 j (List.mem_range.2 hj)
    simp only [ho, Option.bind_some, hd, Bool.or_eq_true, beq_iff_eq] at h3
    rcases h3 with h3 | h3 | h3
    · exact absurd h3 hij
    · simp [hS] at h3
    · exact h3
  · have h2 := (key i _ (Array.getElem?_eq_getElem hi)).2
    rw [if_neg (by omega)] at h2
    exact List.all_eq_true.1 h2 j (List.mem_range.2 hj)

variable {n : Nat} {S : Nat → List Nat} {Φ : Nat → (Nat → Value) → World → Prop} {a0 : Act} {w0 : World}

structure RelInv (md : Region.Mode) (ops : Array Oper) (n : Nat) (Φ : Nat → (Nat → Value) → World → Prop) (a0 : Act) (w0 : World) (L : Array Bool) (a : Act) (w : World) : Prop where
  size : L.size = ops.size
  tsz : a.tmps.size = a0.tmps.size
  dfs : a.defers = a0.defers
  free : ∀ s, (∀ (j : Nat) (o : Oper), ops[j]? = some o → L.getD j false = true → o.dst ≠ some s) → got a s = got a0 s
  grow : ∃ x, w = plus w0 x
  rel : ∀ i, L.getD i false = true → Φ i (got a) w
  shut : ∀ i k, L.getD i false = true → Region.waitsFor md ops i k = true → L.getD k false = true
  front : ∀ i, n ≤ i → L.getD i false = false

theorem getD_false {L : Array Bool} {i : Nat} (h : L.getD i true = false) : L.getD i false = false ∧ i < L.size := by
  rcases Nat.lt_or_ge i L.size with h' | h'
  · simp [h'] at h ⊢
    exact h
  · simp [Array.getElem?_eq_none h'] at h

theorem all_listed (hF : RelFacts md ops n S a0.tmps.size) {L : Array Bool} (hs : L.size = ops.size) (hr : Region.ready md ops L = []) : ∀ i, i < ops.size → L.getD i false = true := by
  intro i
  induction i using Nat.strongRecOn with
  | _ i ih =>
    intro hi
    cases hL : L.getD i false with
    | true => rfl
    | false =>
      exfalso
      have ho : ops[i]? = some ops[i] := Array.getElem?_eq_getElem hi
      have hmem : i ∈ Region.ready md ops L := mem_ready.2 ⟨by simp [hs, hi] at hL ⊢; exact hL, _, ho, fun e he hb => by
        have hlt := hF.back i _ ho e he hb
        exact ih e.on hlt (by omega)⟩
      rw [hr] at hmem
      cases hmem

theorem waits_ready {L : Array Bool} {i : Nat} (hi : i ∈ Region.ready md ops L) {k : Nat} (hk : Region.waitsFor md ops i k = true) : L.getD k false = true := by
  obtain ⟨_, o, ho, hall⟩ := mem_ready.1 hi
  obtain ⟨oj, ho2, e, he, hb, hon⟩ := Region.waitsFor_spec hk
  rw [ho] at ho2
  cases ho2
  exact hon ▸ hall e he hb

theorem rel_step (hF : RelFacts md ops n S a0.tmps.size) (hmono : ∀ i t t' w x, Φ i t w → (∀ s ∈ S i, t' s = t s) → Φ i t' (plus w x)) {L : Array Bool} {a a' : Act} {w w' : World} {i : Nat} {o : Oper} {v : Value}
    (h : RelInv md ops n Φ a0 w0 L a w) (hi : i ∈ Region.ready md ops L) (hin : i < n) (ho : ops[i]? = some o) (ha : a' = a.put o.dst v) (hw : ∃ x, w' = plus w x) (hΦ : Φ i (upd (got a) o.dst v) w') :
    RelInv md ops n Φ a0 w0 (L.setIfInBounds i true) a' w' := by
  obtain ⟨hiL, hiS⟩ := getD_false (mem_ready.1 hi).1
  have hgp : got a' = upd (got a) o.dst v := by
    rw [ha]
    exact got_put fun s hs => by rw [h.tsz]; exact hF.slot i o ho s hs
  have hS : Shut md ops n L := fun j k _ hj hk => h.shut j k hj hk
  have hset : ∀ j, (L.setIfInBounds i true).getD j false = true → j = i ∨ L.getD j false = true := by
    intro j hj
    by_cases e : i = j
    · exact .inl e.symm
    · exact .inr (getD_unset L i j e hj)
  have hdeep : ∀ j, deepB md ops n 8 j i = true → L.getD j false = true → False := by
    intro j hd hj
    have := deep_listed hS 8 j i (fun k hk => h.shut j k hj hk) hd
    rw [hiL] at this
    cases this
  obtain ⟨x, rfl⟩ := hw
  refine ⟨by rw [Array.size_setIfInBounds]; exact h.size, ?_, ?_, ?_, ex_plus h.grow, ?_, ?_, ?_⟩
  · rw [ha, ← h.tsz]
    cases o.dst <;> simp [Act.put]
  · rw [ha, ← h.dfs]
    cases o.dst <;> simp [Act.put]
  · intro s hs
    have h1 : o.dst ≠ some s := hs i o ho (by simp [hiS])
    rw [hgp]
    unfold upd
    rw [if_neg h1]
    exact h.free s fun j oj hj hL => hs j oj hj (getD_set L i j hL)
  · intro j hj
    rcases hset j hj with rfl | hj'
    · rw [hgp]; exact hΦ
    · by_cases e : j = i
      · subst e; rw [hgp]; exact hΦ
      refine hmono j (got a) (got a') w x (h.rel j hj') fun s hs => ?_
      rw [hgp]
      unfold upd
      by_cases hd : o.dst = some s
      · exfalso
        have hjn : j < n := by
          rcases Nat.lt_or_ge j n with h' | h'
          · exact h'
          · rw [h.front j h'] at hj'; cases hj'
        have hjs : j < ops.size := by
          rw [← h.size]
          rcases Nat.lt_or_ge j L.size with h' | h'
          · exact h'
          · simp [Array.getElem?_eq_none h'] at hj'
        exact hdeep j (hF.late j i o s hjn hjs ho hd hs e) hj'
      · rw [if_neg hd]
  · intro j k hj hk
    rcases hset j hj with rfl | hj'
    · exact getD_set L _ k (waits_ready hi hk)
    · exact getD_set L i k (h.shut j k hj' hk)
  · intro j hj
    have e : i ≠ j := by omega
    have h1 := h.front j hj
    cases h2 : (L.setIfInBounds i true).getD j false with
    | false => rfl
    | true => rw [getD_unset L i j e h2] at h1; cases h1

def Steps (P : Program) (md : Region.Mode) (ops : Array Oper) (n : Nat) (Φ : Nat → (Nat → Value) → World → Prop) (a0 : Act) (w0 : World) (Q : Exit → Act → World → Prop) : List Oper → Nat → Prop
  | [], _ => True
  | o :: r, i => (∀ a w, (∃ x, w = plus w0 x) → (∀ s, (ops.any fun o => o.dst == some s) = false → got a s = got a0 s) → (∀ j, deepB md ops n 8 i j = true → Φ j (got a) w) →
      o.wp P a w (fun a' w' => ∃ v, a' = a.put o.dst v ∧ (∃ x, w' = plus w x) ∧ Φ i (upd (got a) o.dst v) w') Q) ∧ Steps P md ops n Φ a0 w0 Q r (i + 1)

theorem steps_at : ∀ (l : List Oper) (k : Nat), Steps P md ops n Φ a0 w0 Q l k → ∀ (i : Nat) (o : Oper), l[i]? = some o → ∀ a w, (∃ x, w = plus w0 x) → (∀ s, (ops.any fun o => o.dst == some s) = false → got a s = got a0 s) → (∀ j, deepB md ops n 8 (k + i) j = true → Φ j (got a) w) →
      o.wp P a w (fun a' w' => ∃ v, a' = a.put o.dst v ∧ (∃ x, w' = plus w x) ∧ Φ (k + i) (upd (got a) o.dst v) w') Q
  | [], _, _, i, o, ho => by simp at ho
  | o :: r, k, h, 0, o', ho => by
    simp only [List.getElem?_cons_zero, Option.some.injEq] at ho
    subst ho
    exact h.1
  | o :: r, k, h, i + 1, o', ho => by
    have := steps_at r (k + 1) h.2 i o' (by simpa using ho)
    rwa [show k + 1 + i = k + (i + 1) by omega] at this

theorem free_of {a : Act} {L : Array Bool} {w : World} (h : RelInv md ops n Φ a0 w0 L a w) : ∀ s, (ops.any fun o => o.dst == some s) = false → got a s = got a0 s := by
  intro s hs
  refine h.free s fun j o ho _ hd => ?_
  have : (ops.any fun o => o.dst == some s) = true := by
    rw [Array.any_eq_true']
    exact ⟨o, Array.mem_of_getElem? ho, by simp [hd]⟩
  rw [hs] at this
  cases this

theorem region_rel {id : Nat} {l : List Oper} (n : Nat) (S : Nat → List Nat) (Φ : Nat → (Nat → Value) → World → Prop) {a : Act} {w : World} (hm : P.follows .mixedOrders = true) (hB : relB .any l.toArray n S a.tmps.size = true) (hn : l.length = n + 1)
    (hmono : ∀ i t t' w x, Φ i t w → (∀ s ∈ S i, t' s = t s) → Φ i t' (plus w x))
    (hst : Steps P .any l.toArray n Φ a w Q (l.take n) 0)
    (hend : ∀ t w', (∃ x, w' = plus w x) → (∀ j, j < n → Φ j t w') → ∀ o, l[n]? = some o → o.wp P (putAll t (l.take n) a) w' (fun a' w'' => Q .normal a' w'') Q) : (Code.region id l.toArray true).wp P Q a w := by
  have hF := relB_facts hB
  refine wp_region_any hm ?_
  refine wpAny_inv (I := fun L a' w' => RelInv .any l.toArray n Φ a w L a' w' ∨ (Region.ready .any l.toArray L = [] ∧ Q .normal a' w')) ?_ ?_ _ _ _ _ ?_ ?_
  · rintro L a' w' i (h | ⟨h, _⟩) hi
    · obtain ⟨hiL, o, ho, hall⟩ := mem_ready.1 hi
      obtain ⟨hiL2, hiS⟩ := getD_false hiL
      have hsz : i < n + 1 := by rw [← hn]; simpa using (Array.getElem?_eq_some_iff.1 ho).1
      have hS : Shut .any l.toArray n L := fun j k _ hj hk => h.shut j k hj hk
      have hdl : ∀ j, deepB .any l.toArray n 8 i j = true → L.getD j false = true := fun j hd => deep_listed hS 8 i j (fun k hk => waits_ready hi hk) hd
      unfold wpOp
      simp only [ho]
      have hwt : Region.wanted o (yielded l.toArray a'.tmps) = true := by simp [Region.wanted, hF.guard i o ho]
      rw [if_pos hwt]
      left
      by_cases hin : i < n
      · have hol : (l.take n)[i]? = some o := by rw [List.getElem?_take, if_pos hin]; simpa using ho
        have hw := steps_at (l.take n) 0 hst i o hol a' w' h.grow (free_of h) (fun j hd => h.rel j (hdl j (by rwa [Nat.zero_add] at hd)))
        rw [Nat.zero_add] at hw
        exact Oper.wp_mono (fun a2 w2 ⟨v, e1, e2, e3⟩ => .inl (rel_step hF hmono h hi hin ho e1 e2 e3)) hw
      · obtain rfl : i = n := by omega
        have hall2 : ∀ j, j < i → L.getD j false = true := fun j hj => hdl j (hF.last i j (Nat.le_refl _) (by simp; omega) hj)
        have ha : a' = putAll (got a') (l.take i) a := by
          have hp := putAll_size (got a') (l.take i) a
          refine act_ext (h.tsz.trans hp.1.symm) (h.dfs.trans hp.2.symm) fun s hs => ?_
          rw [putAll_got _ _ _ _ (by rw [← h.tsz]; exact hs)]
          cases hany : (l.take i).any fun o => o.dst == some s with
          | true => simp
          | false =>
            simp only [Bool.false_eq_true, if_false]
            refine h.free s fun j oj hj hL hd => ?_
            have hjn : j < i := by
              rcases Nat.lt_or_ge j i with h' | h'
              · exact h'
              · rw [h.front j h'] at hL; cases hL
            have : ((l.take i).any fun o => o.dst == some s) = true := List.any_eq_true.2 ⟨oj, List.mem_of_getElem? (i := j) (by rw [List.getElem?_take, if_pos hjn]; simpa using hj), by simp [hd]⟩
            rw [hany] at this
            cases this
        have hE := hend (got a') w' h.grow (fun j hj => h.rel j (hall2 j hj)) o (by simpa using ho)
        rw [← ha] at hE
        refine Oper.wp_mono (fun a2 w2 hq => .inr ⟨?_, hq⟩) hE
        apply List.eq_nil_iff_forall_not_mem.2
        intro j hj
        obtain ⟨hj1, oj, hoj, _⟩ := mem_ready.1 hj
        have hj2 := getD_false hj1
        have hjs : j < i + 1 := by rw [← hn]; simpa using (Array.getElem?_eq_some_iff.1 hoj).1
        by_cases e : j = i
        · subst e
          simp [hiS] at hj1
        · have := getD_set L i j (hall2 j (by omega))
          rw [hj2.1] at this
          cases this
    · rw [h] at hi
      cases hi
  · rintro L a' w' (h | ⟨_, h⟩) hr
    · have := all_listed hF h.size hr n (by simp; omega)
      rw [h.front n (Nat.le_refl _)] at this
      cases this
    · exact h
  · unfold unlisted
    exact Nat.le_trans (List.length_filter_le _ _) (by simp)
  · left
    refine ⟨by simp, rfl, rfl, fun s _ => rfl, ⟨[⟨#[], w.drawn + 1⟩], by simp [plus, blocks, draws]⟩, ?_, ?_, ?_⟩
    · intro i hi
      by_cases hl : i < l.length <;> simp [hl] at hi
    · intro i k hi
      by_cases hl : i < l.length <;> simp [hl] at hi
    · intro i _
      by_cases hl : i < l.length <;> simp [hl]

end

end

section


open Go.RowKit

section

variable {P : Program} {md : Region.Mode} {ops : Array Oper} {Q : Exit → Act → World → Prop}

def relB2 (md : Region.Mode) (ops : Array Oper) (n : Nat) (S : Nat → List Nat) (m : Nat) : Bool :=
  (List.range ops.size).all fun i => match ops[i]? with
    | none => true
    | some o => o.guard.isNone && o.after.all (fun e => !Region.binds md e || decide (e.on < i)) && (match o.dst with | some d => decide (d < m) | none => true) &&
      (if i < n then (List.range ops.size).all fun j => i == j || (match (ops[j]?).bind (·.dst) with | some d => !((S i).contains d) || deepB md ops ops.size 8 i j | none => true)
       else (List.range i).all fun j => deepB md ops ops.size 8 i j)

structure RelFacts2 (md : Region.Mode) (ops : Array Oper) (n : Nat) (S : Nat → List Nat) (m : Nat) : Prop where
  guard : ∀ (i : Nat) (o : Oper), ops[i]? = some o → o.guard = none
  back : ∀ (i : Nat) (o : Oper), ops[i]? = some o → ∀ e ∈ o.after, Region.binds md e = true → e.on < i
  slot : ∀ (i : Nat) (o : Oper), ops[i]? = some o → ∀ d, o.dst = some d → d < m
  late : ∀ (i j : Nat) (o : Oper) (d : Nat), i < n → i < ops.size → ops[j]? = some o → o.dst = some d → d ∈ S i → i ≠ j → deepB md ops ops.size 8 i j = true
  last : ∀ (i j : Nat), n ≤ i → i < ops.size → j < i → deepB md ops ops.size 8 i j = true

theorem relB_facts2 {n m : Nat} {S : Nat → List Nat} (h : relB2 md ops n S m = true) : RelFacts2 md ops n S m := by
  have key : ∀ (i : Nat) (o : Oper), ops[i]? = some o → (((o.guard.isNone = true ∧ o.after.all (fun e => !Region.binds md e || decide (e.on < i)) = true) ∧ (match o.dst with | some d => decide (d < m) | none => true) = true) ∧
      (if i < n then (List.range ops.size).all fun j => i == j || (match (ops[j]?).bind (·.dst) with | some d => !((S i).contains d) || deepB md ops ops.size 8 i j | none => true)
       else (List.range i).all fun j => deepB md ops ops.size 8 i j) = true) := by
    intro i o ho
    have hi : i < ops.size := (Array.getElem?_eq_some_iff.1 ho).1
    have h1 := List.all_eq_true.1 h i (List.mem_range.2 hi)
    simp only [ho, Bool.and_eq_true] at h1
    exact h1
  refine ⟨fun i o ho => ?_, fun i o ho e he hb => ?_, fun i o ho d hd => ?_, fun i j o d hin hi ho hd hS hij => ?_, fun i j hin hi hj => ?_⟩
  · have := (key i o ho).1.1.1
    simpa using this
  · have := Array.all_eq_true'.1 (key i o ho).1.1.2 e he
    simpa [hb] using this
  · have := (key i o ho).1.2
    rw [hd] at this
    simpa using this
  · have h2 := (key i _ (Array.getElem?_eq_getElem hi)).2
    rw [if_pos hin] at h2
    have hj : j < ops.size := (Array.getElem?_eq_some_iff.1 ho).1
    have h3 := List.all_eq_true.1 h2 j (List.mem_range.2 hj)
    simp only [ho, Option.bind_some, hd, Bool.or_eq_true, beq_iff_eq] at h3
    rcases h3 with h3 | h3 | h3
    · exact absurd h3 hij
    · simp [hS] at h3
    · exact h3
  · have h2 := (key i _ (Array.getElem?_eq_getElem hi)).2
    rw [if_neg (by omega)] at h2
    exact List.all_eq_true.1 h2 j (List.mem_range.2 hj)

variable {n : Nat} {S : Nat → List Nat} {Φ : Nat → (Nat → Value) → World → Prop} {a0 : Act} {w0 : World}

structure RelInv2 (md : Region.Mode) (ops : Array Oper) (n : Nat) (Φ : Nat → (Nat → Value) → World → Prop) (a0 : Act) (w0 : World) (L : Array Bool) (a : Act) (w : World) : Prop where
  size : L.size = ops.size
  tsz : a.tmps.size = a0.tmps.size
  dfs : a.defers = a0.defers
  free : ∀ s, (∀ (j : Nat) (o : Oper), ops[j]? = some o → L.getD j false = true → o.dst ≠ some s) → got a s = got a0 s
  grow : ∃ x, w = plus w0 x
  rel : ∀ i, L.getD i false = true → Φ i (got a) w
  shut : ∀ i k, L.getD i false = true → Region.waitsFor md ops i k = true → L.getD k false = true
  front : ∀ i, n ≤ i → L.getD i false = false

theorem getD_false2 {L : Array Bool} {i : Nat} (h : L.getD i true = false) : L.getD i false = false ∧ i < L.size := by
  rcases Nat.lt_or_ge i L.size with h' | h'
  · simp [h'] at h ⊢
    exact h
  · simp [Array.getElem?_eq_none h'] at h

theorem all_listed2 (hF : RelFacts2 md ops n S a0.tmps.size) {L : Array Bool} (hs : L.size = ops.size) (hr : Region.ready md ops L = []) : ∀ i, i < ops.size → L.getD i false = true := by
  intro i
  induction i using Nat.strongRecOn with
  | _ i ih =>
    intro hi
    cases hL : L.getD i false with
    | true => rfl
    | false =>
      exfalso
      have ho : ops[i]? = some ops[i] := Array.getElem?_eq_getElem hi
      have hmem : i ∈ Region.ready md ops L := mem_ready.2 ⟨by simp [hs, hi] at hL ⊢; exact hL, _, ho, fun e he hb => by
        have hlt := hF.back i _ ho e he hb
        exact ih e.on hlt (by omega)⟩
      rw [hr] at hmem
      cases hmem

theorem waits_ready2 {L : Array Bool} {i : Nat} (hi : i ∈ Region.ready md ops L) {k : Nat} (hk : Region.waitsFor md ops i k = true) : L.getD k false = true := by
  obtain ⟨_, o, ho, hall⟩ := mem_ready.1 hi
  obtain ⟨oj, ho2, e, he, hb, hon⟩ := Region.waitsFor_spec hk
  rw [ho] at ho2
  cases ho2
  exact hon ▸ hall e he hb

theorem rel_step2 (hF : RelFacts2 md ops n S a0.tmps.size) (hmono : ∀ i t t' w x, Φ i t w → (∀ s ∈ S i, t' s = t s) → Φ i t' (plus w x)) {L : Array Bool} {a a' : Act} {w w' : World} {i : Nat} {o : Oper} {v : Value}
    (h : RelInv2 md ops n Φ a0 w0 L a w) (hi : i ∈ Region.ready md ops L) (hin : i < n) (ho : ops[i]? = some o) (ha : a' = a.put o.dst v) (hw : ∃ x, w' = plus w x) (hΦ : Φ i (upd (got a) o.dst v) w') :
    RelInv2 md ops n Φ a0 w0 (L.setIfInBounds i true) a' w' := by
  obtain ⟨hiL, hiS⟩ := getD_false2 (mem_ready.1 hi).1
  have hgp : got a' = upd (got a) o.dst v := by
    rw [ha]
    exact got_put fun s hs => by rw [h.tsz]; exact hF.slot i o ho s hs
  have hS : Shut md ops ops.size L := fun j k _ hj hk => h.shut j k hj hk
  have hset : ∀ j, (L.setIfInBounds i true).getD j false = true → j = i ∨ L.getD j false = true := by
    intro j hj
    by_cases e : i = j
    · exact .inl e.symm
    · exact .inr (getD_unset L i j e hj)
  have hdeep : ∀ j, deepB md ops ops.size 8 j i = true → L.getD j false = true → False := by
    intro j hd hj
    have := deep_listed hS 8 j i (fun k hk => h.shut j k hj hk) hd
    rw [hiL] at this
    cases this
  obtain ⟨x, rfl⟩ := hw
  refine ⟨by rw [Array.size_setIfInBounds]; exact h.size, ?_, ?_, ?_, ex_plus h.grow, ?_, ?_, ?_⟩
  · rw [ha, ← h.tsz]
    cases o.dst <;> simp [Act.put]
  · rw [ha, ← h.dfs]
    cases o.dst <;> simp [Act.put]
  · intro s hs
    have h1 : o.dst ≠ some s := hs i o ho (by simp [hiS])
    rw [hgp]
    unfold upd
    rw [if_neg h1]
    exact h.free s fun j oj hj hL => hs j oj hj (getD_set L i j hL)
  · intro j hj
    rcases hset j hj with rfl | hj'
    · rw [hgp]; exact hΦ
    · by_cases e : j = i
      · subst e; rw [hgp]; exact hΦ
      refine hmono j (got a) (got a') w x (h.rel j hj') fun s hs => ?_
      rw [hgp]
      unfold upd
      by_cases hd : o.dst = some s
      · exfalso
        have hjn : j < n := by
          rcases Nat.lt_or_ge j n with h' | h'
          · exact h'
          · rw [h.front j h'] at hj'; cases hj'
        have hjs : j < ops.size := by
          rw [← h.size]
          rcases Nat.lt_or_ge j L.size with h' | h'
          · exact h'
          · simp [Array.getElem?_eq_none h'] at hj'
        exact hdeep j (hF.late j i o s hjn hjs ho hd hs e) hj'
      · rw [if_neg hd]
  · intro j k hj hk
    rcases hset j hj with rfl | hj'
    · exact getD_set L _ k (waits_ready2 hi hk)
    · exact getD_set L i k (h.shut j k hj' hk)
  · intro j hj
    have e : i ≠ j := by omega
    have h1 := h.front j hj
    cases h2 : (L.setIfInBounds i true).getD j false with
    | false => rfl
    | true => rw [getD_unset L i j e h2] at h1; cases h1

def Steps2 (P : Program) (md : Region.Mode) (ops : Array Oper) (n : Nat) (Φ : Nat → (Nat → Value) → World → Prop) (a0 : Act) (w0 : World) (Q : Exit → Act → World → Prop) : List Oper → Nat → Prop
  | [], _ => True
  | o :: r, i => (∀ a w, (∃ x, w = plus w0 x) → (∀ s, (ops.any fun o => o.dst == some s) = false → got a s = got a0 s) → (∀ j, deepB md ops ops.size 8 i j = true → Φ j (got a) w) →
      o.wp P a w (fun a' w' => ∃ v, a' = a.put o.dst v ∧ (∃ x, w' = plus w x) ∧ Φ i (upd (got a) o.dst v) w') Q) ∧ Steps2 P md ops n Φ a0 w0 Q r (i + 1)

theorem steps_at2 : ∀ (l : List Oper) (k : Nat), Steps2 P md ops n Φ a0 w0 Q l k → ∀ (i : Nat) (o : Oper), l[i]? = some o → ∀ a w, (∃ x, w = plus w0 x) → (∀ s, (ops.any fun o => o.dst == some s) = false → got a s = got a0 s) → (∀ j, deepB md ops ops.size 8 (k + i) j = true → Φ j (got a) w) →
      o.wp P a w (fun a' w' => ∃ v, a' = a.put o.dst v ∧ (∃ x, w' = plus w x) ∧ Φ (k + i) (upd (got a) o.dst v) w') Q
  | [], _, _, i, o, ho => by simp at ho
  | o :: r, k, h, 0, o', ho => by
    simp only [List.getElem?_cons_zero, Option.some.injEq] at ho
    subst ho
    exact h.1
  | o :: r, k, h, i + 1, o', ho => by
    have := steps_at2 r (k + 1) h.2 i o' (by simpa using ho)
    rwa [show k + 1 + i = k + (i + 1) by omega] at this

theorem free_of2 {a : Act} {L : Array Bool} {w : World} (h : RelInv2 md ops n Φ a0 w0 L a w) : ∀ s, (ops.any fun o => o.dst == some s) = false → got a s = got a0 s := by
  intro s hs
  refine h.free s fun j o ho _ hd => ?_
  have : (ops.any fun o => o.dst == some s) = true := by
    rw [Array.any_eq_true']
    exact ⟨o, Array.mem_of_getElem? ho, by simp [hd]⟩
  rw [hs] at this
  cases this

theorem region_rels {id : Nat} {l : List Oper} (n : Nat) (S : Nat → List Nat) (Φ : Nat → (Nat → Value) → World → Prop) {a : Act} {w : World} (hm : P.follows .mixedOrders = true) (hB : relB2 .any l.toArray n S a.tmps.size = true) (hn : n ≤ l.length)
    (hmono : ∀ i t t' w x, Φ i t w → (∀ s ∈ S i, t' s = t s) → Φ i t' (plus w x))
    (hst : Steps2 P .any l.toArray n Φ a w Q (l.take n) 0)
    (hend : ∀ t w', (∃ x, w' = plus w x) → (∀ j, j < n → Φ j t w') → wpList P l.toArray Q (l.drop n) (putAll t (l.take n) a) w') : (Code.region id l.toArray true).wp P Q a w := by
  have hF := relB_facts2 hB
  have hsize : l.toArray.size = l.length := by simp
  have hrest : ∀ t w', (∃ x, w' = plus w x) → (∀ j, j < n → Φ j t w') → wpOps P l.toArray Q (List.range' n (l.length - n)) (putAll t (l.take n) a) w' := by
    intro t w' h1 h2
    have h := hend t w' h1 h2
    have e := wpOps_eq_wpList (P := P) (Q := Q) (ops := l.toArray) (l.drop n) n (fun j => by simp)
    rw [List.length_drop] at e
    rw [e]
    exact h
  refine wp_region_any hm ?_
  refine wpAny_inv (I := fun L a' w' => (L.size = l.length ∧ RelInv2 .any l.toArray n Φ a w L a' w') ∨ (L.size = l.length ∧ ∃ i, n ≤ i ∧ i ≤ l.length ∧ (∀ j, L.getD j false = decide (j < i)) ∧ wpOps P l.toArray Q (List.range' i (l.length - i)) a' w')) ?_ ?_ _ _ _ _ ?_ ?_
  · have key : ∀ L a' w' i k, L.size = l.length → n ≤ k → k ≤ l.length → (∀ j, L.getD j false = decide (j < k)) → wpOps P l.toArray Q (List.range' k (l.length - k)) a' w' → i ∈ Region.ready .any l.toArray L →
        wpOp P l.toArray Q i (fun a' w' => ((L.setIfInBounds i true).size = l.length ∧ RelInv2 .any l.toArray n Φ a w (L.setIfInBounds i true) a' w') ∨ ((L.setIfInBounds i true).size = l.length ∧ ∃ k, n ≤ k ∧ k ≤ l.length ∧ (∀ j, (L.setIfInBounds i true).getD j false = decide (j < k)) ∧ wpOps P l.toArray Q (List.range' k (l.length - k)) a' w')) a' w' := by
      intro L a' w' i k hs hnk hkl hL hw hi
      obtain ⟨hiL, o, ho, hall⟩ := mem_ready.1 hi
      obtain ⟨hiL2, hiS⟩ := getD_false2 hiL
      have hik : k ≤ i := by
        rw [hL i] at hiL2
        simpa using hiL2
      obtain rfl : i = k := by
        rcases Nat.eq_or_lt_of_le hik with e | hlt
        · exact e.symm
        · exfalso
          have hd := hF.last i k (by omega) (by simp; omega) hlt
          have hS : Shut .any l.toArray l.toArray.size L := by
            intro p q hp hp2 hq
            rw [hL p] at hp2
            rw [hL q]
            obtain ⟨oj, h1, e, he, hb, hon⟩ := Region.waitsFor_spec hq
            have := hF.back p oj h1 e he hb
            simp at hp2 ⊢
            omega
          have := deep_listed hS 8 i k (fun q hq => waits_ready2 hi hq) hd
          rw [hL k] at this
          simp at this
      have e1 : List.range' i (l.length - i) = i :: List.range' (i + 1) (l.length - (i + 1)) := by
        rw [show l.length - i = (l.length - (i + 1)) + 1 by omega, List.range'_succ]
      rw [e1, wpOps_cons] at hw
      refine wpOp_mono (fun a2 w2 h2 => .inr ⟨by rw [Array.size_setIfInBounds]; exact hs, i + 1, by omega, by omega, fun j => ?_, h2⟩) hw
      by_cases e : i = j
      · subst e
        simp [hiS]
      · have h3 := hL j
        have h4 : (L.setIfInBounds i true).getD j false = L.getD j false := by simp [e]
        rw [h4, h3]
        have : (j < i) ↔ (j < i + 1) := by omega
        simp [this]
    rintro L a' w' i (⟨hs, h⟩ | ⟨hs, k, hnk, hkl, hL, hw⟩) hi
    · by_cases hin : i < n
      · obtain ⟨hiL, o, ho, hall⟩ := mem_ready.1 hi
        have hS : Shut .any l.toArray l.toArray.size L := fun j k _ hj hk => h.shut j k hj hk
        have hdl : ∀ j, deepB .any l.toArray l.toArray.size 8 i j = true → L.getD j false = true := fun j hd => deep_listed hS 8 i j (fun k hk => waits_ready2 hi hk) hd
        unfold wpOp
        simp only [ho]
        have hwt : Region.wanted o (yielded l.toArray a'.tmps) = true := by simp [Region.wanted, hF.guard i o ho]
        rw [if_pos hwt]
        left
        have hol : (l.take n)[i]? = some o := by rw [List.getElem?_take, if_pos hin]; simpa using ho
        have hw := steps_at2 (l.take n) 0 hst i o hol a' w' h.grow (free_of2 h) (fun j hd => h.rel j (hdl j (by rwa [Nat.zero_add] at hd)))
        rw [Nat.zero_add] at hw
        exact Oper.wp_mono (fun a2 w2 ⟨v, e1, e2, e3⟩ => .inl ⟨by rw [Array.size_setIfInBounds]; exact hs, rel_step2 hF hmono h hi hin ho e1 e2 e3⟩) hw
      · obtain ⟨hiL, o, ho, hall⟩ := mem_ready.1 hi
        have hil : i < l.length := by simpa using (Array.getElem?_eq_some_iff.1 ho).1
        have hS : Shut .any l.toArray l.toArray.size L := fun j k _ hj hk => h.shut j k hj hk
        have hall2 : ∀ j, j < i → L.getD j false = true := fun j hj => deep_listed hS 8 i j (fun k hk => waits_ready2 hi hk) (hF.last i j (by omega) (by simp; omega) hj)
        have hin2 : i = n := by
          rcases Nat.lt_or_ge n i with h1 | h1
          · have h2 := hall2 n h1
            rw [h.front n (Nat.le_refl _)] at h2
            cases h2
          · omega
        subst hin2
        have ha : a' = putAll (got a') (l.take i) a := by
          have hp := putAll_size (got a') (l.take i) a
          refine act_ext (h.tsz.trans hp.1.symm) (h.dfs.trans hp.2.symm) fun s hs => ?_
          rw [putAll_got _ _ _ _ (by rw [← h.tsz]; exact hs)]
          cases hany : (l.take i).any fun o => o.dst == some s with
          | true => simp
          | false =>
            simp only [Bool.false_eq_true, if_false]
            refine h.free s fun j oj hj hL hd => ?_
            have hjn : j < i := by
              rcases Nat.lt_or_ge j i with h' | h'
              · exact h'
              · rw [h.front j h'] at hL; cases hL
            have : ((l.take i).any fun o => o.dst == some s) = true := List.any_eq_true.2 ⟨oj, List.mem_of_getElem? (i := j) (by rw [List.getElem?_take, if_pos hjn]; simpa using hj), by simp [hd]⟩
            rw [hany] at this
            cases this
        have hw := hrest (got a') w' h.grow (fun j hj => h.rel j (hall2 j hj))
        rw [← ha] at hw
        refine key L a' w' i i hs (Nat.le_refl _) (by omega) (fun j => ?_) hw hi
        by_cases hj : j < i
        · rw [hall2 j hj, decide_eq_true hj]
        · rw [h.front j (by omega), decide_eq_false hj]
    · exact key L a' w' i k hs hnk hkl hL hw hi
  · rintro L a' w' (⟨hs, h⟩ | ⟨hs, k, hnk, hkl, hL, hw⟩) hr
    · have hall := all_listed2 hF (by rw [hs, hsize]) hr
      have hnl : l.length = n := by
        rcases Nat.lt_or_ge n l.length with h1 | h1
        · have := hall n (by simpa using h1)
          rw [h.front n (Nat.le_refl _)] at this
          cases this
        · omega
      have ha : a' = putAll (got a') (l.take n) a := by
        have hp := putAll_size (got a') (l.take n) a
        refine act_ext (h.tsz.trans hp.1.symm) (h.dfs.trans hp.2.symm) fun s hs => ?_
        rw [putAll_got _ _ _ _ (by rw [← h.tsz]; exact hs)]
        cases hany : (l.take n).any fun o => o.dst == some s with
        | true => simp
        | false =>
          simp only [Bool.false_eq_true, if_false]
          refine h.free s fun j oj hj hL hd => ?_
          have hjn : j < n := by
            rcases Nat.lt_or_ge j n with h' | h'
            · exact h'
            · rw [h.front j h'] at hL; cases hL
          have : ((l.take n).any fun o => o.dst == some s) = true := List.any_eq_true.2 ⟨oj, List.mem_of_getElem? (i := j) (by rw [List.getElem?_take, if_pos hjn]; simpa using hj), by simp [hd]⟩
          rw [hany] at this
          cases this
      have hw := hrest (got a') w' h.grow (fun j hj => h.rel j (hall j (by simp; omega)))
      rw [← ha, hnl, Nat.sub_self] at hw
      exact hw
    · have hall := all_listed2 (n := n) (S := S) (a0 := a) hF (by rw [hs, hsize]) hr
      obtain rfl : k = l.length := by
        rcases Nat.lt_or_ge k l.length with h1 | h1
        · have := hall k (by simpa using h1)
          rw [hL k] at this
          simp at this
        · omega
      rw [Nat.sub_self] at hw
      exact hw
  · unfold unlisted
    exact Nat.le_trans (List.length_filter_le _ _) (by simp)
  · left
    refine ⟨by simp, by simp, rfl, rfl, fun s _ => rfl, ⟨[⟨#[], w.drawn + 1⟩], by simp [plus, blocks, draws]⟩, ?_, ?_, ?_⟩
    · intro i hi
      by_cases hl : i < l.length <;> simp [hl] at hi
    · intro i k hi
      by_cases hl : i < l.length <;> simp [hl] at hi
    · intro i _
      by_cases hl : i < l.length <;> simp [hl]

end

end

section


open Go.RowKit

section

variable {α β : Type} {f : α → List Value} {f' : β → List Value} {P : Program} {w w1 T T' : World} {ao ao2 : Option Addr} {n m cap c c' c2 : Nat} {l l2 : List α} {l' : List β} {e e' t : TypeId} {b : Nat} {o : Oper} {a : Act} {K : Act → World → Prop} {Q : Exit → Act → World → Prop}

theorem grown_refl (w : World) (r : Option Nat) : w.grownBy w r := ⟨rfl, rfl, rfl, Nat.le_refl _, fun _ _ _ => rfl⟩

theorem run_append_lay2 {ty : TypeId} (hk : Kin P t e c b) (hc : ∀ x, (f x).length = c) (h1 : ∀ x, ∀ u ∈ f x, u.oneCell' = true)
    (hT : ∃ y, w = plus T y) (hown : Own e c f T w ao n cap l) (c2 : Nat) (hl : Lay f w ao2 m l2) (hm : n + m ≤ maxLen) (hb : (n + m) * b ≤ 140737488355328) :
    ∃ ao' cap' w1, (Builtin.append_ #[t, t] ty #[.slice ao n cap, .slice ao2 m c2]).run P w = .ok (.slice ao' (n + m) cap') w1 ∧ Own e c f T w1 ao' (n + m) cap' (l ++ l2) ∧ (∃ y, w1 = plus T y) ∧ w.grownBy w1 (Value.ownBlock (.slice ao n cap)) := by
  by_cases h0 : m = 0
  · subst h0
    have hnc : n ≤ cap := by
      rcases hown.2.2 with ⟨e, _⟩ | ⟨g, cp, cur, e, _, _, hcp, _⟩
      · simp only [Value.slice.injEq] at e; omega
      · simp only [Value.slice.injEq] at e; omega
    refine ⟨ao, cap, w, run_append_zero hk hnc c2, ?_, hT, grown_refl w _⟩
    rw [hl.zero, List.append_nil, Nat.add_zero]
    exact hown
  obtain ⟨g, off, rfl, hg, hcell⟩ := hl.some (by omega)
  obtain ⟨i, z, hi, hz, hz1, hz2, hz3⟩ := hk.info
  obtain ⟨y, rfl⟩ := hT
  obtain ⟨v', w1, hr, ho, hgr, _, _⟩ := run_append_own_at (P := P) (plus T y) T.heap.size t ty e i z c b hk.und hi hz hz1 hz2 hz3 hk.pos (.slice ao n cap) n (l.flatMap f) hown.2 ⟨g, off, none⟩ m c2 (l2.flatMap f)
    (by rw [flat_length hc, hl.len]) (fun j u hu => by have hadd : (⟨g, off, none⟩ : Addr).add j = ⟨g, off + j, none⟩ := (by unfold Addr.add; split <;> simp_all); rw [hadd]; exact hcell j u hu) (flat_one h1 l2) hm hb (by rw [plus_size]; omega)
  have hB : Below T.heap.size T w1 := (plus_below T y).grown hgr (by rw [plus_size]; omega) (fun k hk => (World.ownsRow.lt hown.2 k hk).1)
  obtain ⟨g', cap', rfl, _, _⟩ := World.ownsRow.form ho (by omega)
  exact ⟨_, cap', w1, hr, ⟨by rw [List.length_append, hown.1, hl.len], by rw [List.flatMap_append]; exact ho⟩, below_plus hB, hgr⟩

theorem wp_append_lay2 (s x : Operand) (ho : o.op = .call { callee := .builtin .append, args := #[s, x], argTypes := #[t, t] }) (hk : Kin P t e c b) (hc : ∀ x, (f x).length = c) (h1 : ∀ x, ∀ u ∈ f x, u.oneCell' = true)
    (hs : a.eval s = .slice ao n cap) (hT : ∃ y, w = plus T y) (hown : Own e c f T w ao n cap l) (hx : a.eval x = .slice ao2 m c2) (hl : Lay f w ao2 m l2) (hm : n + m ≤ 100000) (hb : b ≤ 100000)
    (h : ∀ ao' cap' w1, Own e c f T w1 ao' (n + m) cap' (l ++ l2) → (∃ y, w1 = plus T y) → w.grownBy w1 (Value.ownBlock (.slice ao n cap)) → K (a.put o.dst (.slice ao' (n + m) cap')) w1) : o.wp P a w K Q := by
  obtain ⟨ao', cap', w1, hr, h2, h3, h4⟩ := run_append_lay2 (ty := o.type) hk hc h1 hT hown c2 hl (by unfold maxLen; omega) (Nat.le_trans (Nat.mul_le_mul hm hb) (by decide))
  unfold Oper.wp execOp
  simp only [ho, resolve, invoke, builtin, Sem.run_bind, Sem.run_pure, Result.andThen_ok, List.map_toArray, List.map_cons, List.map_nil, hs, hx, hr]
  exact h ao' cap' w1 h2 h3 h4

theorem wpList_append_lay2 {ops : Array Oper} {rest : List Oper} (hgd : o.guard = none) (s x : Operand) (ho : o.op = .call { callee := .builtin .append, args := #[s, x], argTypes := #[t, t] }) (hk : Kin P t e c b) (hc : ∀ x, (f x).length = c) (h1 : ∀ x, ∀ u ∈ f x, u.oneCell' = true)
    (hs : a.eval s = .slice ao n cap) (hT : ∃ y, w = plus T y) (hown : Own e c f T w ao n cap l) (hx : a.eval x = .slice ao2 m c2) (hl : Lay f w ao2 m l2) (hm : n + m ≤ 100000) (hb : b ≤ 100000)
    (h : ∀ ao' cap' w1, Own e c f T w1 ao' (n + m) cap' (l ++ l2) → (∃ y, w1 = plus T y) → w.grownBy w1 (Value.ownBlock (.slice ao n cap)) → wpList P ops Q rest (a.put o.dst (.slice ao' (n + m) cap')) w1) : wpList P ops Q (o :: rest) a w :=
  wpList_plain hgd fun _ hK => wp_append_lay2 s x ho hk hc h1 hs hT hown hx hl hm hb fun ao' cap' w1 h2 h3 h4 => hK _ _ (h ao' cap' w1 h2 h3 h4)

theorem grown_blk {g : Nat} {cur : Array Value} (hgr : w.grownBy w1 (Value.ownBlock (.slice ao n cap))) (hown : Own e c f T w ao n cap l) (hb : w.heap[g]? = some (.cells cur e')) (he : e' ≠ e) : w1.heap[g]? = some (.cells cur e') := by
  rw [hgr.block g (blk_lt hb) ?_]
  · exact hb
  · intro e0
    cases ao with
    | none => simp [Value.ownBlock] at e0
    | some a0 =>
      simp only [Value.ownBlock, Option.some.injEq] at e0
      rcases hown.2.2 with ⟨h1, _⟩ | ⟨k, cp, cu, h1, h2, h3, _⟩
      · simp at h1
      · simp only [Value.slice.injEq, Option.some.injEq] at h1
        rw [h1.1] at e0
        simp only at e0
        rw [← e0, hb] at h3
        cases h3
        exact he rfl

theorem grown_own (hgr : w.grownBy w1 (Value.ownBlock (.slice ao n cap))) (hown : Own e c f T w ao n cap l) (h : Own e' c' f' T' w ao2 m c2 l') (he : e' ≠ e) : Own e' c' f' T' w1 ao2 m c2 l' := by
  refine ⟨h.1, h.2.1, h.2.2.imp id ?_⟩
  rintro ⟨k, cp, cu, h1, h2, h3, h4⟩
  exact ⟨k, cp, cu, h1, h2, grown_blk hgr hown h3 he, h4⟩

end

end

end Go.Proofs.YtcekcihijdipoaaGreat
