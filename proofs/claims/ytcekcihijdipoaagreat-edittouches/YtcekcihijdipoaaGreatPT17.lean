/- A pack of texts: Rel5. -/
import Derived.Test.YtcekcihijdipoaaGreatPT3
namespace Go.Proofs.YtcekcihijdipoaaGreat

section


open Go.RowKit

section

variable {P : Program} {md : Region.Mode} {ops : Array Oper} {Q : Exit → Act → World → Prop}

variable {n : Nat} {S : Nat → List Nat} {Φ : Nat → (Nat → Value) → World → Prop} {a0 : Act} {w0 : World}

def Steps5 (P : Program) (md : Region.Mode) (ops : Array Oper) (n : Nat) (Φ : Nat → (Nat → Value) → World → Prop) (a0 : Act) (w0 : World) (Q : Exit → Act → World → Prop) : List Oper → Nat → Prop
  | [], _ => True
  | o :: r, i => (∀ a w, (∃ x, w = plus w0 x) → (∀ s, ((ops.toList.take n).any fun o => o.dst == some s) = false → got a s = got a0 s) → (∀ j, deepB md ops ops.size 8 i j = true → Φ j (got a) w) →
      o.wp P a w (fun a' w' => ∃ v, a' = a.put o.dst v ∧ (∃ x, w' = plus w x) ∧ Φ i (upd (got a) o.dst v) w') Q) ∧ Steps5 P md ops n Φ a0 w0 Q r (i + 1)

theorem steps_at5 : ∀ (l : List Oper) (k : Nat), Steps5 P md ops n Φ a0 w0 Q l k → ∀ (i : Nat) (o : Oper), l[i]? = some o → ∀ a w, (∃ x, w = plus w0 x) → (∀ s, ((ops.toList.take n).any fun o => o.dst == some s) = false → got a s = got a0 s) → (∀ j, deepB md ops ops.size 8 (k + i) j = true → Φ j (got a) w) →
      o.wp P a w (fun a' w' => ∃ v, a' = a.put o.dst v ∧ (∃ x, w' = plus w x) ∧ Φ (k + i) (upd (got a) o.dst v) w') Q
  | [], _, _, i, o, ho => by simp at ho
  | o :: r, k, h, 0, o', ho => by
    simp only [List.getElem?_cons_zero, Option.some.injEq] at ho
    subst ho
    exact h.1
  | o :: r, k, h, i + 1, o', ho => by
    have := steps_at5 r (k + 1) h.2 i o' (by simpa using ho)
    rwa [show k + 1 + i = k + (i + 1) by omega] at this

theorem free_of5 {a : Act} {L : Array Bool} {w : World} (h : RelInv2 md ops n Φ a0 w0 L a w) : ∀ s, ((ops.toList.take n).any fun o => o.dst == some s) = false → got a s = got a0 s := by
  intro s hs
  refine h.free s fun j o ho hL hd => ?_
  have hjn : j < n := by
    rcases Nat.lt_or_ge j n with h' | h'
    · exact h'
    · rw [h.front j h'] at hL; cases hL
  have : ((ops.toList.take n).any fun o => o.dst == some s) = true := by
    rw [List.any_eq_true]
    refine ⟨o, ?_, by simp [hd]⟩
    have h2 : (ops.toList.take n)[j]? = some o := by rw [List.getElem?_take_of_lt hjn]; simpa using ho
    exact List.mem_of_getElem? h2
  rw [hs] at this
  cases this

theorem region_relT {id : Nat} {l : List Oper} (n : Nat) (S : Nat → List Nat) (Φ : Nat → (Nat → Value) → World → Prop) {a : Act} {w : World} (hm : P.follows .mixedOrders = true) (hB : relB2 .any l.toArray n S a.tmps.size = true) (hn : n ≤ l.length)
    (hmono : ∀ i t t' w x, Φ i t w → (∀ s ∈ S i, t' s = t s) → Φ i t' (plus w x))
    (hst : Steps5 P .any l.toArray n Φ a w Q (l.take n) 0)
    (hend : ∀ t w', (∃ x, w' = plus w x) → (∀ j, j < n → Φ j t w') → wpList P l.toArray Q (l.drop n) (putAll t (l.take n) a) w') : (Code.region id l.toArray true).wp P Q a w := by
  have hF := relB_facts2 hB
  have hsize : l.toArray.size = l.length := by simp
  have hrest : ∀ t w', (∃ x, w' = plus w x) → (∀ j, j < n → Φ j t w') → wpOps P l.toArray Q (List.range' n (l.length - n)) (putAll t (l.take n) a) w' := by
    intro t w' h1 h2
    have h := hend t w' h1 h2
    have e := wpOps_eq_wpList (P := P) (Q := Q) (ops := l.toArray) (l.drop n) n (fun j => by simp)
    rw [List.length_drop] at e
    rw [e]
    exact h
  refine wp_region_any hm ?_
  refine wpAny_inv (I := fun L a' w' => (L.size = l.length ∧ RelInv2 .any l.toArray n Φ a w L a' w') ∨ (L.size = l.length ∧ ∃ i, n ≤ i ∧ i ≤ l.length ∧ (∀ j, L.getD j false = decide (j < i)) ∧ wpOps P l.toArray Q (List.range' i (l.length - i)) a' w')) ?_ ?_ _ _ _ _ ?_ ?_
  · have key : ∀ L a' w' i k, L.size = l.length → n ≤ k → k ≤ l.length → (∀ j, L.getD j false = decide (j < k)) → wpOps P l.toArray Q (List.range' k (l.length - k)) a' w' → i ∈ Region.ready .any l.toArray L →
        wpOp P l.toArray Q i (fun a' w' => ((L.setIfInBounds i true).size = l.length ∧ RelInv2 .any l.toArray n Φ a w (L.setIfInBounds i true) a' w') ∨ ((L.setIfInBounds i true).size = l.length ∧ ∃ k, n ≤ k ∧ k ≤ l.length ∧ (∀ j, (L.setIfInBounds i true).getD j false = decide (j < k)) ∧ wpOps P l.toArray Q (List.range' k (l.length - k)) a' w')) a' w' := by
      intro L a' w' i k hs hnk hkl hL hw hi
      obtain ⟨hiL, o, ho, hall⟩ := mem_ready.1 hi
      obtain ⟨hiL2, hiS⟩ := getD_false2 hiL
      have hik : k ≤ i := by
        rw [hL i] at hiL2
        simpa using hiL2
      obtain rfl : i = k := by
        rcases Nat.eq_or_lt_of_le hik with e | hlt
        · exact e.symm
        · exfalso
          have hd := hF.last i k (by omega) (by simp; omega) hlt
          have hS : Shut .any l.toArray l.toArray.size L := by
            intro p q hp hp2 hq
            rw [hL p] at hp2
            rw [hL q]
            obtain ⟨oj, h1, e, he, hb, hon⟩ := Region.waitsFor_spec hq
            have := hF.back p oj h1 e he hb
            simp at hp2 ⊢
            omega
          have := deep_listed hS 8 i k (fun q hq => waits_ready2 hi hq) hd
          rw [hL k] at this
          simp at this
      have e1 : List.range' i (l.length - i) = i :: List.range' (i + 1) (l.length - (i + 1)) := by
        rw [show l.length - i = (l.length - (i + 1)) + 1 by omega, List.range'_succ]
      rw [e1, wpOps_cons] at hw
      refine wpOp_mono (fun a2 w2 h2 => .inr ⟨by rw [Array.size_setIfInBounds]; exact hs, i + 1, by omega, by omega, fun j => ?_, h2⟩) hw
      by_cases e : i = j
      · subst e
        simp [hiS]
      · have h3 := hL j
        have h4 : (L.setIfInBounds i true).getD j false = L.getD j false := by simp [e]
        rw [h4, h3]
        have : (j < i) ↔ (j < i + 1) := by omega
        simp [this]
    rintro L a' w' i (⟨hs, h⟩ | ⟨hs, k, hnk, hkl, hL, hw⟩) hi
    · by_cases hin : i < n
      · obtain ⟨hiL, o, ho, hall⟩ := mem_ready.1 hi
        have hS : Shut .any l.toArray l.toArray.size L := fun j k _ hj hk => h.shut j k hj hk
        have hdl : ∀ j, deepB .any l.toArray l.toArray.size 8 i j = true → L.getD j false = true := fun j hd => deep_listed hS 8 i j (fun k hk => waits_ready2 hi hk) hd
        unfold wpOp
        simp only [ho]
        have hwt : Region.wanted o (yielded l.toArray a'.tmps) = true := by simp [Region.wanted, hF.guard i o ho]
        rw [if_pos hwt]
        left
        have hol : (l.take n)[i]? = some o := by rw [List.getElem?_take, if_pos hin]; simpa using ho
        have hw := steps_at5 (l.take n) 0 hst i o hol a' w' h.grow (free_of5 h) (fun j hd => h.rel j (hdl j (by rwa [Nat.zero_add] at hd)))
        rw [Nat.zero_add] at hw
        exact Oper.wp_mono (fun a2 w2 ⟨v, e1, e2, e3⟩ => .inl ⟨by rw [Array.size_setIfInBounds]; exact hs, rel_step2 hF hmono h hi hin ho e1 e2 e3⟩) hw
      · obtain ⟨hiL, o, ho, hall⟩ := mem_ready.1 hi
        have hil : i < l.length := by simpa using (Array.getElem?_eq_some_iff.1 ho).1
        have hS : Shut .any l.toArray l.toArray.size L := fun j k _ hj hk => h.shut j k hj hk
        have hall2 : ∀ j, j < i → L.getD j false = true := fun j hj => deep_listed hS 8 i j (fun k hk => waits_ready2 hi hk) (hF.last i j (by omega) (by simp; omega) hj)
        have hin2 : i = n := by
          rcases Nat.lt_or_ge n i with h1 | h1
          · have h2 := hall2 n h1
            rw [h.front n (Nat.le_refl _)] at h2
            cases h2
          · omega
        subst hin2
        have ha : a' = putAll (got a') (l.take i) a := by
          have hp := putAll_size (got a') (l.take i) a
          refine act_ext (h.tsz.trans hp.1.symm) (h.dfs.trans hp.2.symm) fun s hs => ?_
          rw [putAll_got _ _ _ _ (by rw [← h.tsz]; exact hs)]
          cases hany : (l.take i).any fun o => o.dst == some s with
          | true => simp
          | false =>
            simp only [Bool.false_eq_true, if_false]
            refine h.free s fun j oj hj hL hd => ?_
            have hjn : j < i := by
              rcases Nat.lt_or_ge j i with h' | h'
              · exact h'
              · rw [h.front j h'] at hL; cases hL
            have : ((l.take i).any fun o => o.dst == some s) = true := List.any_eq_true.2 ⟨oj, List.mem_of_getElem? (i := j) (by rw [List.getElem?_take, if_pos hjn]; simpa using hj), by simp [hd]⟩
            rw [hany] at this
            cases this
        have hw := hrest (got a') w' h.grow (fun j hj => h.rel j (hall2 j hj))
        rw [← ha] at hw
        refine key L a' w' i i hs (Nat.le_refl _) (by omega) (fun j => ?_) hw hi
        by_cases hj : j < i
        · rw [hall2 j hj, decide_eq_true hj]
        · rw [h.front j (by omega), decide_eq_false hj]
    · exact key L a' w' i k hs hnk hkl hL hw hi
  · rintro L a' w' (⟨hs, h⟩ | ⟨hs, k, hnk, hkl, hL, hw⟩) hr
    · have hall := all_listed2 hF (by rw [hs, hsize]) hr
      have hnl : l.length = n := by
        rcases Nat.lt_or_ge n l.length with h1 | h1
        · have := hall n (by simpa using h1)
          rw [h.front n (Nat.le_refl _)] at this
          cases this
        · omega
      have ha : a' = putAll (got a') (l.take n) a := by
        have hp := putAll_size (got a') (l.take n) a
        refine act_ext (h.tsz.trans hp.1.symm) (h.dfs.trans hp.2.symm) fun s hs => ?_
        rw [putAll_got _ _ _ _ (by rw [← h.tsz]; exact hs)]
        cases hany : (l.take n).any fun o => o.dst == some s with
        | true => simp
        | false =>
          simp only [Bool.false_eq_true, if_false]
          refine h.free s fun j oj hj hL hd => ?_
          have hjn : j < n := by
            rcases Nat.lt_or_ge j n with h' | h'
            · exact h'
            · rw [h.front j h'] at hL; cases hL
          have : ((l.take n).any fun o => o.dst == some s) = true := List.any_eq_true.2 ⟨oj, List.mem_of_getElem? (i := j) (by rw [List.getElem?_take, if_pos hjn]; simpa using hj), by simp [hd]⟩
          rw [hany] at this
          cases this
      have hw := hrest (got a') w' h.grow (fun j hj => h.rel j (hall j (by simp; omega)))
      rw [← ha, hnl, Nat.sub_self] at hw
      exact hw
    · have hall := all_listed2 (n := n) (S := S) (a0 := a) hF (by rw [hs, hsize]) hr
      obtain rfl : k = l.length := by
        rcases Nat.lt_or_ge k l.length with h1 | h1
        · have := hall k (by simpa using h1)
          rw [hL k] at this
          simp at this
        · omega
      rw [Nat.sub_self] at hw
      exact hw
  · unfold unlisted
    exact Nat.le_trans (List.length_filter_le _ _) (by simp)
  · left
    refine ⟨by simp, by simp, rfl, rfl, fun s _ => rfl, ⟨[⟨#[], w.drawn + 1⟩], by simp [plus, blocks, draws]⟩, ?_, ?_, ?_⟩
    · intro i hi
      by_cases hl : i < l.length <;> simp [hl] at hi
    · intro i k hi
      by_cases hl : i < l.length <;> simp [hl] at hi
    · intro i _
      by_cases hl : i < l.length <;> simp [hl]

end

end

end Go.Proofs.YtcekcihijdipoaaGreat
