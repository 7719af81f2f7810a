/- A region that draws its order, whose first n operations read, and call what only makes new memory, and whose others wait for all of them, one behind the other (stores of results): one walk of the first in the order of the text, then the others. -/
import Derived.Test.YtimmbpcoagjcbaaExt
import Derived.StillTail
namespace Go.Proofs.Ytimmbpcoagjcbaa
open Go.RowKit

section
variable {P : Program} {md : Region.Mode} {C : World → Prop} {l : List Oper} {n : Nat}

def backB (md : Region.Mode) (l : List Oper) (n : Nat) : Bool :=
  (List.range n).all fun i => match l[i]? with
    | some o => (o.after.all fun e => !Region.binds md e || decide (e.on < i)) && (match o.guard with | some (j, _) => decide (j < n) | none => true)
    | none => true

/-- t waits for i, by way of some of the first n. -/
def deepB (md : Region.Mode) (ops : Array Oper) (n : Nat) : Nat → Nat → Nat → Bool
  | 0, t, i => Region.waitsFor md ops t i
  | f + 1, t, i => Region.waitsFor md ops t i || (List.range n).any fun j => Region.waitsFor md ops t j && deepB md ops n f j i

def waitB (md : Region.Mode) (l : List Oper) (n : Nat) : Bool :=
  (List.range l.length).all fun t => decide (t < n) || (List.range n).all fun i => deepB md l.toArray n 2 t i

/-- What is listed is listed with all that it waits for. -/
def Shut (md : Region.Mode) (ops : Array Oper) (n : Nat) (L : Array Bool) : Prop :=
  ∀ j i, j < n → L.getD j false = true → Region.waitsFor md ops j i = true → L.getD i false = true

theorem deep_listed {ops : Array Oper} {L : Array Bool} (hS : Shut md ops n L) : ∀ f t i, (∀ j, Region.waitsFor md ops t j = true → L.getD j false = true) → deepB md ops n f t i = true → L.getD i false = true := by
  intro f
  induction f with
  | zero => intro t i ht h; exact ht i h
  | succ f ih =>
    intro t i ht h
    simp only [deepB, Bool.or_eq_true] at h
    rcases h with h | h
    · exact ht i h
    · obtain ⟨j, hj, h2⟩ := List.any_eq_true.1 h
      simp only [Bool.and_eq_true] at h2
      exact ih j i (fun k hk => hS j k (List.mem_range.1 hj) (ht j h2.1) hk) h2.2

theorem back_spec (h : backB md l n = true) {i : Nat} {o : Oper} (hi : i < n) (ho : l[i]? = some o) : (∀ e ∈ o.after, Region.binds md e = true → e.on < i) ∧ ∀ j b, o.guard = some (j, b) → j < n := by
  have h1 := List.all_eq_true.1 h i (List.mem_range.2 hi)
  simp only [ho, Bool.and_eq_true] at h1
  refine ⟨fun e he hbd => ?_, fun j b hg => ?_⟩
  · have := Array.all_eq_true'.1 h1.1 e he
    simpa [hbd] using this
  · have h2 := h1.2
    rw [hg] at h2
    simpa using h2

theorem wait_spec (h : waitB md l n = true) {t i : Nat} (ht : n ≤ t) (htl : t < l.length) (hi : i < n) : deepB md l.toArray n 2 t i = true := by
  have h1 := List.all_eq_true.1 h t (List.mem_range.2 htl)
  simp only [Bool.or_eq_true, decide_eq_true_eq] at h1
  rcases h1 with h1 | h1
  · omega
  · exact List.all_eq_true.1 h1 i (List.mem_range.2 hi)

theorem head_get (i : Nat) (hi : i < n) : (l.take n).toArray[i]? = l.toArray[i]? := by
  simp [hi]

theorem wanted_head (h : backB md l n = true) {i : Nat} {o : Oper} (hi : i < n) (ho : l[i]? = some o) (t : Array Value) :
    Region.wanted o (yielded (l.take n).toArray t) = Region.wanted o (yielded l.toArray t) := by
  unfold Region.wanted
  cases hg : o.guard with
  | none => rfl
  | some g =>
    obtain ⟨j, b⟩ := g
    have hj := (back_spec h hi ho).2 j b hg
    show (yielded (l.take n).toArray t j == some b) = (yielded l.toArray t j == some b)
    unfold yielded
    rw [head_get j hj]

theorem qOp_head (h : backB md l n = true) {i : Nat} (hi : i < n) {K : Act → Prop} {a : Act} (hq : qOp P (l.take n).toArray C i K a) : qOp P l.toArray C i K a := by
  unfold qOp at *
  rw [head_get i hi] at hq
  cases ho : l.toArray[i]? with
  | none => simpa [ho] using hq
  | some o =>
    simp only [ho] at hq ⊢
    rw [wanted_head h hi (by simpa using ho)] at hq
    exact hq

theorem getD_left (L : Array Bool) (m i : Nat) (d : Bool) (hi : i < L.size) : (L ++ Array.replicate m false).getD i d = L.getD i d := by
  simp [hi, Array.getElem?_append]

theorem getD_right (L : Array Bool) (m i : Nat) (hi : L.size ≤ i) (hm : i < L.size + m) : (L ++ Array.replicate m false).getD i true = false := by
  have h1 : ¬ i < L.size := by omega
  have h2 : i - L.size < m := by omega
  simp [Array.getElem?_append, h1, h2]

theorem getD_app (L : Array Bool) (m j : Nat) (h : (L ++ Array.replicate m false).getD j false = true) : L.getD j false = true := by
  by_cases hj : j < L.size
  · rwa [getD_left _ _ _ _ hj] at h
  · simp only [Array.getD_eq_getD_getElem?, Array.getElem?_append, if_neg hj] at h
    by_cases h2 : j - L.size < m
    · simp [h2] at h
    · simp [h2] at h

theorem getD_set (L : Array Bool) (i j : Nat) (h : L.getD j false = true) : (L.setIfInBounds i true).getD j false = true := by
  simp only [Array.getD_eq_getD_getElem?, Array.getElem?_setIfInBounds] at *
  by_cases e : i = j
  · subst e
    by_cases hi : i < L.size
    · simp [hi]
    · simp [hi] at h
  · simpa [e] using h

theorem getD_unset (L : Array Bool) (i j : Nat) (e : i ≠ j) (h : (L.setIfInBounds i true).getD j false = true) : L.getD j false = true := by
  simp only [Array.getD_eq_getD_getElem?, Array.getElem?_setIfInBounds] at *
  simpa [e] using h

theorem set_left (L : Array Bool) (m i : Nat) (hi : i < L.size) : (L ++ Array.replicate m false).setIfInBounds i true = L.setIfInBounds i true ++ Array.replicate m false := by
  apply Array.ext_getElem?
  intro k
  simp only [Array.getElem?_setIfInBounds, Array.getElem?_append, Array.size_append, Array.size_setIfInBounds, Array.size_replicate]
  by_cases hk : i = k
  · subst hk; simp [hi]; omega
  · simp [hk]

/-- Which of the first are not listed yet: the least of them may come up. -/
theorem ready_some (hb : backB md l n = true) (hn : n ≤ l.length) (L : Array Bool) (hL : L.size = n) (i : Nat) (hi : L.getD i true = false) :
    ∃ k, k ∈ Region.ready md (l.take n).toArray L := by
  induction i using Nat.strongRecOn with
  | _ i ih =>
    have hin : i < n := by
      rcases Nat.lt_or_ge i L.size with h | h
      · omega
      · simp [Array.getElem?_eq_none h] at hi
    have hil : i < l.length := by omega
    have ho : l[i]? = some l[i] := List.getElem?_eq_getElem hil
    by_cases hall : ∀ e ∈ l[i].after, Region.binds md e = true → L.getD e.on false = true
    · exact ⟨i, mem_ready.2 ⟨hi, l[i], by rw [head_get i hin]; simp, hall⟩⟩
    · obtain ⟨e, he, hbd, hcond⟩ : ∃ e, e ∈ l[i].after ∧ Region.binds md e = true ∧ L.getD e.on false = false := by
        apply Classical.byContradiction
        intro hne
        apply hall
        intro e he hbd
        cases hg : L.getD e.on false with
        | true => rfl
        | false => exact absurd ⟨e, he, hbd, hg⟩ hne
      have hlt := (back_spec hb hin ho).1 e he hbd
      exact ih e.on hlt (getD_in (by omega) hcond)

theorem tail_any {Q : Exit → Act → World → Prop} (hb : backB md l n = true) (hw : waitB md l n = true) (hn : n ≤ l.length)
    (hs : Region.seqB md l.toArray (l.length - n) n (Array.replicate n true ++ Array.replicate (l.length - n) false) = true) :
    ∀ (f : Nat) (L : Array Bool) (a : Act) (w : World), L.size = n → L.count false = f → Shut md l.toArray n L → C w →
      wpAnyQ P md (l.take n).toArray C (fun a' => ∀ w', C w' → wpList P l.toArray Q (l.drop n) a' w') f L a →
      wpAny P md l.toArray Q (f + (l.length - n)) (L ++ Array.replicate (l.length - n) false) a w := by
  intro f
  induction f with
  | zero =>
    intro L a w hL hc hS hC h
    have e : L = Array.replicate n true := by
      apply Array.ext (by simpa using hL)
      intro i h1 h2
      simp only [Array.getElem_replicate]
      cases hv : L[i] with
      | true => rfl
      | false => exact absurd (hv ▸ Array.getElem_mem h1) (Array.count_eq_zero.1 hc)
    rw [e, Nat.zero_add]
    have hd : (l.drop n).length = l.length - n := by simp
    have := wpAny_of_seq (P := P) (md := md) (ops := l.toArray) (Q' := Q) (l.drop n) n (Array.replicate n true ++ Array.replicate (l.length - n) false) a w (fun j => by simp [List.getElem?_drop]) (by rw [hd]; exact hs) (h.2 w hC)
    rwa [hd] at this
  | succ f ih =>
    intro L a w hL hc hS hC h
    rw [show f + 1 + (l.length - n) = (f + (l.length - n)) + 1 by omega]
    have hex : ∃ i, L.getD i true = false := by
      have : 0 < L.count false := by omega
      obtain ⟨i, h1, h2⟩ := Array.mem_iff_getElem.1 (Array.count_pos_iff.1 this)
      exact ⟨i, by simp [h1, h2]⟩
    obtain ⟨u, hu⟩ := hex
    obtain ⟨k, hk⟩ := ready_some (md := md) hb hn L hL u hu
    have part : ∀ i, i ∈ Region.ready md l.toArray (L ++ Array.replicate (l.length - n) false) → i < n ∧ i ∈ Region.ready md (l.take n).toArray L := by
      intro i hi
      obtain ⟨h1, o, ho, h2⟩ := mem_ready.1 hi
      have hil : i < l.length := by
        have := (Array.getElem?_eq_some_iff.1 ho).1
        simpa using this
      by_cases hin : i < n
      · refine ⟨hin, mem_ready.2 ⟨by rw [getD_left _ _ _ _ (by omega)] at h1; exact h1, o, by rw [head_get i hin]; exact ho, fun e he hbd => ?_⟩⟩
        have hlt := (back_spec hb hin (by simpa using ho)).1 e he hbd
        have := h2 e he hbd
        rwa [getD_left _ _ _ _ (by omega)] at this
      · have hun : u < n := by
          rcases Nat.lt_or_ge u L.size with h | h
          · omega
          · simp [Array.getElem?_eq_none h] at hu
        have h3 := deep_listed hS 2 i u (fun j hj => by
          obtain ⟨o', ho', e, he, hbd, hon⟩ := Region.waitsFor_spec hj
          have : o' = o := Option.some.inj (ho'.symm.trans ho)
          subst this
          have h3 := h2 e he hbd
          rw [hon] at h3
          exact getD_app _ _ _ h3) (wait_spec hw (by omega) hil hun)
        rw [getD_both hu] at h3
        cases h3
    have hkn : k < n := by
      obtain ⟨h1, o, ho, _⟩ := mem_ready.1 hk
      have := (Array.getElem?_eq_some_iff.1 ho).1
      simp at this
      omega
    have back : k ∈ Region.ready md l.toArray (L ++ Array.replicate (l.length - n) false) := by
      obtain ⟨h1, o, ho, h2⟩ := mem_ready.1 hk
      rw [head_get k hkn] at ho
      refine mem_ready.2 ⟨by rw [getD_left _ _ _ _ (by omega)]; exact h1, o, ho, fun e he hbd => ?_⟩
      have hlt := (back_spec hb hkn (by simpa using ho)).1 e he hbd
      rw [getD_left _ _ _ _ (by omega)]
      exact h2 e he hbd
    refine ⟨fun h0 => (by rw [h0] at back; cases back), fun i hi => ?_⟩
    obtain ⟨hin, hr⟩ := part i hi
    have hun := (mem_ready.1 hr).1
    refine wpOp_of_qOp hC (fun a' w' hC' hk' => ?_) (qOp_head hb hin (h.2 i hr))
    rw [set_left _ _ _ (by omega)]
    refine ih _ a' w' (by simpa using hL) ?_ ?_ hC' hk'
    rotate_left
    · intro j k hj hlj hwt
      by_cases e : i = j
      · subst e
        obtain ⟨_, o, ho, h2⟩ := mem_ready.1 hr
        obtain ⟨o', ho', e, he, hbd, hon⟩ := Region.waitsFor_spec hwt
        rw [head_get i hin] at ho
        have : o' = o := Option.some.inj (ho'.symm.trans ho)
        subst this
        have h3 := h2 e he hbd
        rw [hon] at h3
        exact getD_set _ _ _ h3
      · exact getD_set _ _ _ (hS j k hj (getD_unset _ _ _ e hlj) hwt)
    have hiL : i < L.size := by omega
    have hLi : L[i] = false := by simpa [hiL] using hun
    rw [Array.setIfInBounds_def, dif_pos hiL, Array.count_set]
    simp [hLi, hc]

def tailB (l : List Oper) (n : Nat) : Bool :=
  decide (n ≤ l.length) && Region.lexB .any (l.take n).toArray && backB .any l n && waitB .any l n &&
    Region.seqB .any l.toArray (l.length - n) n (Array.replicate n true ++ Array.replicate (l.length - n) false)

theorem region_tail {id : Nat} {Q : Exit → Act → World → Prop} {a : Act} {w : World} (n : Nat) (hm : P.follows .mixedOrders = true) (hB : tailB l n = true)
    (h : wpQuiet P (l.take n).toArray (fun w' => ∃ x, w' = plus w x) (fun a' => ∀ w', (∃ x, w' = plus w x) → wpList P l.toArray Q (l.drop n) a' w') (l.take n) a) :
    (Code.region id l.toArray true).wp P Q a w := by
  simp only [tailB, Bool.and_eq_true, decide_eq_true_eq] at hB
  obtain ⟨⟨⟨⟨hn, hlex⟩, hb⟩, hw⟩, hs⟩ := hB
  simp only [Region.lexB, Bool.and_eq_true] at hlex
  have hsz : (l.take n).toArray.size = n := by simp; omega
  have hlen : (l.take n).length = n := by simp; omega
  have h1 := wpAnyQ_lex (P := P) (md := .any) (C := fun w' => ∃ x, w' = plus w x) (Q := fun a' => ∀ w', (∃ x, w' = plus w x) → wpList P l.toArray Q (l.drop n) a' w') hlex.1 (l.take n) 0
    (Array.replicate n false) a (by simp) (by rw [hlen]; have := hlex.2; rwa [hsz] at this) h
  rw [hlen] at h1
  refine wp_region_any hm ?_
  have h2 := tail_any (Q := Q) hb hw hn hs n (Array.replicate n false) a { w with drawn := w.drawn + 1 } (by simp) (by simp) (fun j i _ hj _ => by by_cases h : j < n <;> simp [h] at hj) ⟨[⟨#[], w.drawn + 1⟩], by simp [plus, blocks, draws]⟩ h1
  have e1 : n + (l.length - n) = l.toArray.size := by simp; omega
  have e2 : Array.replicate n false ++ Array.replicate (l.length - n) false = Array.replicate l.toArray.size false := by
    rw [Array.replicate_append_replicate, e1]
  rw [e1, e2] at h2
  exact h2
end
end Go.Proofs.Ytimmbpcoagjcbaa
