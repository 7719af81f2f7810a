/- A pack of texts: Rel2, Lay2, Arena1, Arena2, Arena3, Arena4, Rel3, Two, Arena5, Copy, Nodes1. -/
import Derived.Test.YtcekcihijdipoaaGreatProg
import Derived.Laws.CopyRow
import Derived.Laws.MakeOwn
import Derived.Test.YtcekcihijdipoaaGreatPN2
import Derived.Test.YtcekcihijdipoaaGreatPN1
namespace Go.Proofs.YtcekcihijdipoaaGreat

section


open Go.RowKit

section

variable {P : Program} {md : Region.Mode} {ops : Array Oper} {Q : Exit → Act → World → Prop}

def relB2 (md : Region.Mode) (ops : Array Oper) (n : Nat) (S : Nat → List Nat) (m : Nat) : Bool :=
  (List.range ops.size).all fun i => match ops[i]? with
    | none => true
    | some o => o.guard.isNone && o.after.all (fun e => !Region.binds md e || decide (e.on < i)) && (match o.dst with | some d => decide (d < m) | none => true) &&
      (if i < n then (List.range ops.size).all fun j => i == j || (match (ops[j]?).bind (·.dst) with | some d => !((S i).contains d) || deepB md ops ops.size 8 i j | none => true)
       else (List.range i).all fun j => deepB md ops ops.size 8 i j)

structure RelFacts2 (md : Region.Mode) (ops : Array Oper) (n : Nat) (S : Nat → List Nat) (m : Nat) : Prop where
  guard : ∀ (i : Nat) (o : Oper), ops[i]? = some o → o.guard = none
  back : ∀ (i : Nat) (o : Oper), ops[i]? = some o → ∀ e ∈ o.after, Region.binds md e = true → e.on < i
  slot : ∀ (i : Nat) (o : Oper), ops[i]? = some o → ∀ d, o.dst = some d → d < m
  late : ∀ (i j : Nat) (o : Oper) (d : Nat), i < n → i < ops.size → ops[j]? = some o → o.dst = some d → d ∈ S i → i ≠ j → deepB md ops ops.size 8 i j = true
  last : ∀ (i j : Nat), n ≤ i → i < ops.size → j < i → deepB md ops ops.size 8 i j = true

theorem relB_facts2 {n m : Nat} {S : Nat → List Nat} (h : relB2 md ops n S m = true) : RelFacts2 md ops n S m := by
  have key : ∀ (i : Nat) (o : Oper), ops[i]? = some o → (((o.guard.isNone = true ∧ o.after.all (fun e => !Region.binds md e || decide (e.on < i)) = true) ∧ (match o.dst with | some d => decide (d < m) | none => true) = true) ∧
      (if i < n then (List.range ops.size).all fun j => i == j || (match (ops[j]?).bind (·.dst) with | some d => !((S i).contains d) || deepB md ops ops.size 8 i j | none => true)
       else (List.range i).all fun j => deepB md ops ops.size 8 i j) = true) := by
    intro i o ho
    have hi : i < ops.size := (Array.getElem?_eq_some_iff.1 ho).1
    have h1 := List.all_eq_true.1 h i (List.mem_range.2 hi)
    simp only [ho, Bool.and_eq_true] at h1
    exact h1
  refine ⟨fun i o ho => ?_, fun i o ho e he hb => ?_, fun i o ho d hd => ?_, fun i j o d hin hi ho hd hS hij => ?_, fun i j hin hi hj => ?_⟩
  · have := (key i o ho).1.1.1
    simpa using this
  · have := Array.all_eq_true'.1 (key i o ho).1.1.2 e he
    simpa [hb] using this
  · have := (key i o ho).1.2
    rw [hd] at this
    simpa using this
  · have h2 := (key i _ (Array.getElem?_eq_getElem hi)).2
    rw [if_pos hin] at h2
    have hj : j < ops.size := (Array.getElem?_eq_some_iff.1 ho).1
    have h3 := List.all_eq_true.1 h2 j (List.mem_range.2 hj)
    simp only [ho, Option.bind_some, hd, Bool.or_eq_true, beq_iff_eq] at h3
    rcases h3 with h3 | h3 | h3
    · exact absurd h3 hij
    · simp [hS] at h3
    · exact h3
  · have h2 := (key i _ (Array.getElem?_eq_getElem hi)).2
    rw [if_neg (by omega)] at h2
    exact List.all_eq_true.1 h2 j (List.mem_range.2 hj)

variable {n : Nat} {S : Nat → List Nat} {Φ : Nat → (Nat → Value) → World → Prop} {a0 : Act} {w0 : World}

structure RelInv2 (md : Region.Mode) (ops : Array Oper) (n : Nat) (Φ : Nat → (Nat → Value) → World → Prop) (a0 : Act) (w0 : World) (L : Array Bool) (a : Act) (w : World) : Prop where
  size : L.size = ops.size
  tsz : a.tmps.size = a0.tmps.size
  dfs : a.defers = a0.defers
  free : ∀ s, (∀ (j : Nat) (o : Oper), ops[j]? = some o → L.getD j false = true → o.dst ≠ some s) → got a s = got a0 s
  grow : ∃ x, w = plus w0 x
  rel : ∀ i, L.getD i false = true → Φ i (got a) w
  shut : ∀ i k, L.getD i false = true → Region.waitsFor md ops i k = true → L.getD k false = true
  front : ∀ i, n ≤ i → L.getD i false = false

theorem getD_false2 {L : Array Bool} {i : Nat} (h : L.getD i true = false) : L.getD i false = false ∧ i < L.size := by
  rcases Nat.lt_or_ge i L.size with h' | h'
  · simp [h'] at h ⊢
    exact h
  · simp [Array.getElem?_eq_none h'] at h

theorem all_listed2 (hF : RelFacts2 md ops n S a0.tmps.size) {L : Array Bool} (hs : L.size = ops.size) (hr : Region.ready md ops L = []) : ∀ i, i < ops.size → L.getD i false = true := by
  intro i
  induction i using Nat.strongRecOn with
  | _ i ih =>
    intro hi
    cases hL : L.getD i false with
    | true => rfl
    | false =>
      exfalso
      have ho : ops[i]? = some ops[i] := Array.getElem?_eq_getElem hi
      have hmem : i ∈ Region.ready md ops L := mem_ready.2 ⟨by simp [hs, hi] at hL ⊢; exact hL, _, ho, fun e he hb => by
        have hlt := hF.back i _ ho e he hb
        exact ih e.on hlt (by omega)⟩
      rw [hr] at hmem
      cases hmem

theorem waits_ready2 {L : Array Bool} {i : Nat} (hi : i ∈ Region.ready md ops L) {k : Nat} (hk : Region.waitsFor md ops i k = true) : L.getD k false = true := by
  obtain ⟨_, o, ho, hall⟩ := mem_ready.1 hi
  obtain ⟨oj, ho2, e, he, hb, hon⟩ := Region.waitsFor_spec hk
  rw [ho] at ho2
  cases ho2
  exact hon ▸ hall e he hb

theorem rel_step2 (hF : RelFacts2 md ops n S a0.tmps.size) (hmono : ∀ i t t' w x, Φ i t w → (∀ s ∈ S i, t' s = t s) → Φ i t' (plus w x)) {L : Array Bool} {a a' : Act} {w w' : World} {i : Nat} {o : Oper} {v : Value}
    (h : RelInv2 md ops n Φ a0 w0 L a w) (hi : i ∈ Region.ready md ops L) (hin : i < n) (ho : ops[i]? = some o) (ha : a' = a.put o.dst v) (hw : ∃ x, w' = plus w x) (hΦ : Φ i (upd (got a) o.dst v) w') :
    RelInv2 md ops n Φ a0 w0 (L.setIfInBounds i true) a' w' := by
  obtain ⟨hiL, hiS⟩ := getD_false2 (mem_ready.1 hi).1
  have hgp : got a' = upd (got a) o.dst v := by
    rw [ha]
    exact got_put fun s hs => by rw [h.tsz]; exact hF.slot i o ho s hs
  have hS : Shut md ops ops.size L := fun j k _ hj hk => h.shut j k hj hk
  have hset : ∀ j, (L.setIfInBounds i true).getD j false = true → j = i ∨ L.getD j false = true := by
    intro j hj
    by_cases e : i = j
    · exact .inl e.symm
    · exact .inr (getD_unset L i j e hj)
  have hdeep : ∀ j, deepB md ops ops.size 8 j i = true → L.getD j false = true → False := by
    intro j hd hj
    have := deep_listed hS 8 j i (fun k hk => h.shut j k hj hk) hd
    rw [hiL] at this
    cases this
  obtain ⟨x, rfl⟩ := hw
  refine ⟨by rw [Array.size_setIfInBounds]; exact h.size, ?_, ?_, ?_, ex_plus h.grow, ?_, ?_, ?_⟩
  · rw [ha, ← h.tsz]
    cases o.dst <;> simp [Act.put]
  · rw [ha, ← h.dfs]
    cases o.dst <;> simp [Act.put]
  · intro s hs
    have h1 : o.dst ≠ some s := hs i o ho (by simp [hiS])
    rw [hgp]
    unfold upd
    rw [if_neg h1]
    exact h.free s fun j oj hj hL => hs j oj hj (getD_set L i j hL)
  · intro j hj
    rcases hset j hj with rfl | hj'
    · rw [hgp]; exact hΦ
    · by_cases e : j = i
      · subst e; rw [hgp]; exact hΦ
      refine hmono j (got a) (got a') w x (h.rel j hj') fun s hs => ?_
      rw [hgp]
      unfold upd
      by_cases hd : o.dst = some s
      · exfalso
        have hjn : j < n := by
          rcases Nat.lt_or_ge j n with h' | h'
          · exact h'
          · rw [h.front j h'] at hj'; cases hj'
        have hjs : j < ops.size := by
          rw [← h.size]
          rcases Nat.lt_or_ge j L.size with h' | h'
          · exact h'
          · simp [Array.getElem?_eq_none h'] at hj'
        exact hdeep j (hF.late j i o s hjn hjs ho hd hs e) hj'
      · rw [if_neg hd]
  · intro j k hj hk
    rcases hset j hj with rfl | hj'
    · exact getD_set L _ k (waits_ready2 hi hk)
    · exact getD_set L i k (h.shut j k hj' hk)
  · intro j hj
    have e : i ≠ j := by omega
    have h1 := h.front j hj
    cases h2 : (L.setIfInBounds i true).getD j false with
    | false => rfl
    | true => rw [getD_unset L i j e h2] at h1; cases h1

def Steps2 (P : Program) (md : Region.Mode) (ops : Array Oper) (n : Nat) (Φ : Nat → (Nat → Value) → World → Prop) (a0 : Act) (w0 : World) (Q : Exit → Act → World → Prop) : List Oper → Nat → Prop
  | [], _ => True
  | o :: r, i => (∀ a w, (∃ x, w = plus w0 x) → (∀ s, (ops.any fun o => o.dst == some s) = false → got a s = got a0 s) → (∀ j, deepB md ops ops.size 8 i j = true → Φ j (got a) w) →
      o.wp P a w (fun a' w' => ∃ v, a' = a.put o.dst v ∧ (∃ x, w' = plus w x) ∧ Φ i (upd (got a) o.dst v) w') Q) ∧ Steps2 P md ops n Φ a0 w0 Q r (i + 1)

theorem steps_at2 : ∀ (l : List Oper) (k : Nat), Steps2 P md ops n Φ a0 w0 Q l k → ∀ (i : Nat) (o : Oper), l[i]? = some o → ∀ a w, (∃ x, w = plus w0 x) → (∀ s, (ops.any fun o => o.dst == some s) = false → got a s = got a0 s) → (∀ j, deepB md ops ops.size 8 (k + i) j = true → Φ j (got a) w) →
      o.wp P a w (fun a' w' => ∃ v, a' = a.put o.dst v ∧ (∃ x, w' = plus w x) ∧ Φ (k + i) (upd (got a) o.dst v) w') Q
  | [], _, _, i, o, ho => by simp at ho
  | o :: r, k, h, 0, o', ho => by
    simp only [List.getElem?_cons_zero, Option.some.injEq] at ho
    subst ho
    exact h.1
  | o :: r, k, h, i + 1, o', ho => by
    have := steps_at2 r (k + 1) h.2 i o' (by simpa using ho)
    rwa [show k + 1 + i = k + (i + 1) by omega] at this

theorem free_of2 {a : Act} {L : Array Bool} {w : World} (h : RelInv2 md ops n Φ a0 w0 L a w) : ∀ s, (ops.any fun o => o.dst == some s) = false → got a s = got a0 s := by
  intro s hs
  refine h.free s fun j o ho _ hd => ?_
  have : (ops.any fun o => o.dst == some s) = true := by
    rw [Array.any_eq_true']
    exact ⟨o, Array.mem_of_getElem? ho, by simp [hd]⟩
  rw [hs] at this
  cases this

theorem region_rels {id : Nat} {l : List Oper} (n : Nat) (S : Nat → List Nat) (Φ : Nat → (Nat → Value) → World → Prop) {a : Act} {w : World} (hm : P.follows .mixedOrders = true) (hB : relB2 .any l.toArray n S a.tmps.size = true) (hn : n ≤ l.length)
    (hmono : ∀ i t t' w x, Φ i t w → (∀ s ∈ S i, t' s = t s) → Φ i t' (plus w x))
    (hst : Steps2 P .any l.toArray n Φ a w Q (l.take n) 0)
    (hend : ∀ t w', (∃ x, w' = plus w x) → (∀ j, j < n → Φ j t w') → wpList P l.toArray Q (l.drop n) (putAll t (l.take n) a) w') : (Code.region id l.toArray true).wp P Q a w := by
  have hF := relB_facts2 hB
  have hsize : l.toArray.size = l.length := by simp
  have hrest : ∀ t w', (∃ x, w' = plus w x) → (∀ j, j < n → Φ j t w') → wpOps P l.toArray Q (List.range' n (l.length - n)) (putAll t (l.take n) a) w' := by
    intro t w' h1 h2
    have h := hend t w' h1 h2
    have e := wpOps_eq_wpList (P := P) (Q := Q) (ops := l.toArray) (l.drop n) n (fun j => by simp)
    rw [List.length_drop] at e
    rw [e]
    exact h
  refine wp_region_any hm ?_
  refine wpAny_inv (I := fun L a' w' => (L.size = l.length ∧ RelInv2 .any l.toArray n Φ a w L a' w') ∨ (L.size = l.length ∧ ∃ i, n ≤ i ∧ i ≤ l.length ∧ (∀ j, L.getD j false = decide (j < i)) ∧ wpOps P l.toArray Q (List.range' i (l.length - i)) a' w')) ?_ ?_ _ _ _ _ ?_ ?_
  · have key : ∀ L a' w' i k, L.size = l.length → n ≤ k → k ≤ l.length → (∀ j, L.getD j false = decide (j < k)) → wpOps P l.toArray Q (List.range' k (l.length - k)) a' w' → i ∈ Region.ready .any l.toArray L →
        wpOp P l.toArray Q i (fun a' w' => ((L.setIfInBounds i true).size = l.length ∧ RelInv2 .any l.toArray n Φ a w (L.setIfInBounds i true) a' w') ∨ ((L.setIfInBounds i true).size = l.length ∧ ∃ k, n ≤ k ∧ k ≤ l.length ∧ (∀ j, (L.setIfInBounds i true).getD j false = decide (j < k)) ∧ wpOps P l.toArray Q (List.range' k (l.length - k)) a' w')) a' w' := by
      intro L a' w' i k hs hnk hkl hL hw hi
      obtain ⟨hiL, o, ho, hall⟩ := mem_ready.1 hi
      obtain ⟨hiL2, hiS⟩ := getD_false2 hiL
      have hik : k ≤ i := by
        rw [hL i] at hiL2
        simpa using hiL2
      obtain rfl : i = k := by
        rcases Nat.eq_or_lt_of_le hik with e | hlt
        · exact e.symm
        · exfalso
          have hd := hF.last i k (by omega) (by simp; omega) hlt
          have hS : Shut .any l.toArray l.toArray.size L := by
            intro p q hp hp2 hq
            rw [hL p] at hp2
            rw [hL q]
            obtain ⟨oj, h1, e, he, hb, hon⟩ := Region.waitsFor_spec hq
            have := hF.back p oj h1 e he hb
            simp at hp2 ⊢
            omega
          have := deep_listed hS 8 i k (fun q hq => waits_ready2 hi hq) hd
          rw [hL k] at this
          simp at this
      have e1 : List.range' i (l.length - i) = i :: List.range' (i + 1) (l.length - (i + 1)) := by
        rw [show l.length - i = (l.length - (i + 1)) + 1 by omega, List.range'_succ]
      rw [e1, wpOps_cons] at hw
      refine wpOp_mono (fun a2 w2 h2 => .inr ⟨by rw [Array.size_setIfInBounds]; exact hs, i + 1, by omega, by omega, fun j => ?_, h2⟩) hw
      by_cases e : i = j
      · subst e
        simp [hiS]
      · have h3 := hL j
        have h4 : (L.setIfInBounds i true).getD j false = L.getD j false := by simp [e]
        rw [h4, h3]
        have : (j < i) ↔ (j < i + 1) := by omega
        simp [this]
    rintro L a' w' i (⟨hs, h⟩ | ⟨hs, k, hnk, hkl, hL, hw⟩) hi
    · by_cases hin : i < n
      · obtain ⟨hiL, o, ho, hall⟩ := mem_ready.1 hi
        have hS : Shut .any l.toArray l.toArray.size L := fun j k _ hj hk => h.shut j k hj hk
        have hdl : ∀ j, deepB .any l.toArray l.toArray.size 8 i j = true → L.getD j false = true := fun j hd => deep_listed hS 8 i j (fun k hk => waits_ready2 hi hk) hd
        unfold wpOp
        simp only [ho]
        have hwt : Region.wanted o (yielded l.toArray a'.tmps) = true := by simp [Region.wanted, hF.guard i o ho]
        rw [if_pos hwt]
        left
        have hol : (l.take n)[i]? = some o := by rw [List.getElem?_take, if_pos hin]; simpa using ho
        have hw := steps_at2 (l.take n) 0 hst i o hol a' w' h.grow (free_of2 h) (fun j hd => h.rel j (hdl j (by rwa [Nat.zero_add] at hd)))
        rw [Nat.zero_add] at hw
        exact Oper.wp_mono (fun a2 w2 ⟨v, e1, e2, e3⟩ => .inl ⟨by rw [Array.size_setIfInBounds]; exact hs, rel_step2 hF hmono h hi hin ho e1 e2 e3⟩) hw
      · obtain ⟨hiL, o, ho, hall⟩ := mem_ready.1 hi
        have hil : i < l.length := by simpa using (Array.getElem?_eq_some_iff.1 ho).1
        have hS : Shut .any l.toArray l.toArray.size L := fun j k _ hj hk => h.shut j k hj hk
        have hall2 : ∀ j, j < i → L.getD j false = true := fun j hj => deep_listed hS 8 i j (fun k hk => waits_ready2 hi hk) (hF.last i j (by omega) (by simp; omega) hj)
        have hin2 : i = n := by
          rcases Nat.lt_or_ge n i with h1 | h1
          · have h2 := hall2 n h1
            rw [h.front n (Nat.le_refl _)] at h2
            cases h2
          · omega
        subst hin2
        have ha : a' = putAll (got a') (l.take i) a := by
          have hp := putAll_size (got a') (l.take i) a
          refine act_ext (h.tsz.trans hp.1.symm) (h.dfs.trans hp.2.symm) fun s hs => ?_
          rw [putAll_got _ _ _ _ (by rw [← h.tsz]; exact hs)]
          cases hany : (l.take i).any fun o => o.dst == some s with
          | true => simp
          | false =>
            simp only [Bool.false_eq_true, if_false]
            refine h.free s fun j oj hj hL hd => ?_
            have hjn : j < i := by
              rcases Nat.lt_or_ge j i with h' | h'
              · exact h'
              · rw [h.front j h'] at hL; cases hL
            have : ((l.take i).any fun o => o.dst == some s) = true := List.any_eq_true.2 ⟨oj, List.mem_of_getElem? (i := j) (by rw [List.getElem?_take, if_pos hjn]; simpa using hj), by simp [hd]⟩
            rw [hany] at this
            cases this
        have hw := hrest (got a') w' h.grow (fun j hj => h.rel j (hall2 j hj))
        rw [← ha] at hw
        refine key L a' w' i i hs (Nat.le_refl _) (by omega) (fun j => ?_) hw hi
        by_cases hj : j < i
        · rw [hall2 j hj, decide_eq_true hj]
        · rw [h.front j (by omega), decide_eq_false hj]
    · exact key L a' w' i k hs hnk hkl hL hw hi
  · rintro L a' w' (⟨hs, h⟩ | ⟨hs, k, hnk, hkl, hL, hw⟩) hr
    · have hall := all_listed2 hF (by rw [hs, hsize]) hr
      have hnl : l.length = n := by
        rcases Nat.lt_or_ge n l.length with h1 | h1
        · have := hall n (by simpa using h1)
          rw [h.front n (Nat.le_refl _)] at this
          cases this
        · omega
      have ha : a' = putAll (got a') (l.take n) a := by
        have hp := putAll_size (got a') (l.take n) a
        refine act_ext (h.tsz.trans hp.1.symm) (h.dfs.trans hp.2.symm) fun s hs => ?_
        rw [putAll_got _ _ _ _ (by rw [← h.tsz]; exact hs)]
        cases hany : (l.take n).any fun o => o.dst == some s with
        | true => simp
        | false =>
          simp only [Bool.false_eq_true, if_false]
          refine h.free s fun j oj hj hL hd => ?_
          have hjn : j < n := by
            rcases Nat.lt_or_ge j n with h' | h'
            · exact h'
            · rw [h.front j h'] at hL; cases hL
          have : ((l.take n).any fun o => o.dst == some s) = true := List.any_eq_true.2 ⟨oj, List.mem_of_getElem? (i := j) (by rw [List.getElem?_take, if_pos hjn]; simpa using hj), by simp [hd]⟩
          rw [hany] at this
          cases this
      have hw := hrest (got a') w' h.grow (fun j hj => h.rel j (hall j (by simp; omega)))
      rw [← ha, hnl, Nat.sub_self] at hw
      exact hw
    · have hall := all_listed2 (n := n) (S := S) (a0 := a) hF (by rw [hs, hsize]) hr
      obtain rfl : k = l.length := by
        rcases Nat.lt_or_ge k l.length with h1 | h1
        · have := hall k (by simpa using h1)
          rw [hL k] at this
          simp at this
        · omega
      rw [Nat.sub_self] at hw
      exact hw
  · unfold unlisted
    exact Nat.le_trans (List.length_filter_le _ _) (by simp)
  · left
    refine ⟨by simp, by simp, rfl, rfl, fun s _ => rfl, ⟨[⟨#[], w.drawn + 1⟩], by simp [plus, blocks, draws]⟩, ?_, ?_, ?_⟩
    · intro i hi
      by_cases hl : i < l.length <;> simp [hl] at hi
    · intro i k hi
      by_cases hl : i < l.length <;> simp [hl] at hi
    · intro i _
      by_cases hl : i < l.length <;> simp [hl]

end

end

section


open Go.RowKit

section

variable {α β : Type} {f : α → List Value} {f' : β → List Value} {P : Program} {w w1 T T' : World} {ao ao2 : Option Addr} {n m cap c c' c2 : Nat} {l l2 : List α} {l' : List β} {e e' t : TypeId} {b : Nat} {o : Oper} {a : Act} {K : Act → World → Prop} {Q : Exit → Act → World → Prop}

theorem grown_refl (w : World) (r : Option Nat) : w.grownBy w r := ⟨rfl, rfl, rfl, Nat.le_refl _, fun _ _ _ => rfl⟩

theorem run_append_lay2 {ty : TypeId} (hk : Kin P t e c b) (hc : ∀ x, (f x).length = c) (h1 : ∀ x, ∀ u ∈ f x, u.oneCell' = true)
    (hT : ∃ y, w = plus T y) (hown : Own e c f T w ao n cap l) (c2 : Nat) (hl : Lay f w ao2 m l2) (hm : n + m ≤ maxLen) (hb : (n + m) * b ≤ 140737488355328) :
    ∃ ao' cap' w1, (Builtin.append_ #[t, t] ty #[.slice ao n cap, .slice ao2 m c2]).run P w = .ok (.slice ao' (n + m) cap') w1 ∧ Own e c f T w1 ao' (n + m) cap' (l ++ l2) ∧ (∃ y, w1 = plus T y) ∧ w.grownBy w1 (Value.ownBlock (.slice ao n cap)) := by
  by_cases h0 : m = 0
  · subst h0
    have hnc : n ≤ cap := by
      rcases hown.2.2 with ⟨e, _⟩ | ⟨g, cp, cur, e, _, _, hcp, _⟩
      · simp only [Value.slice.injEq] at e; omega
      · simp only [Value.slice.injEq] at e; omega
    refine ⟨ao, cap, w, run_append_zero hk hnc c2, ?_, hT, grown_refl w _⟩
    rw [hl.zero, List.append_nil, Nat.add_zero]
    exact hown
  obtain ⟨g, off, rfl, hg, hcell⟩ := hl.some (by omega)
  obtain ⟨i, z, hi, hz, hz1, hz2, hz3⟩ := hk.info
  obtain ⟨y, rfl⟩ := hT
  obtain ⟨v', w1, hr, ho, hgr, _, _⟩ := run_append_own_at (P := P) (plus T y) T.heap.size t ty e i z c b hk.und hi hz hz1 hz2 hz3 hk.pos (.slice ao n cap) n (l.flatMap f) hown.2 ⟨g, off, none⟩ m c2 (l2.flatMap f)
    (by rw [flat_length hc, hl.len]) (fun j u hu => by have hadd : (⟨g, off, none⟩ : Addr).add j = ⟨g, off + j, none⟩ := (by unfold Addr.add; split <;> simp_all); rw [hadd]; exact hcell j u hu) (flat_one h1 l2) hm hb (by rw [plus_size]; omega)
  have hB : Below T.heap.size T w1 := (plus_below T y).grown hgr (by rw [plus_size]; omega) (fun k hk => (World.ownsRow.lt hown.2 k hk).1)
  obtain ⟨g', cap', rfl, _, _⟩ := World.ownsRow.form ho (by omega)
  exact ⟨_, cap', w1, hr, ⟨by rw [List.length_append, hown.1, hl.len], by rw [List.flatMap_append]; exact ho⟩, below_plus hB, hgr⟩

theorem wp_append_lay2 (s x : Operand) (ho : o.op = .call { callee := .builtin .append, args := #[s, x], argTypes := #[t, t] }) (hk : Kin P t e c b) (hc : ∀ x, (f x).length = c) (h1 : ∀ x, ∀ u ∈ f x, u.oneCell' = true)
    (hs : a.eval s = .slice ao n cap) (hT : ∃ y, w = plus T y) (hown : Own e c f T w ao n cap l) (hx : a.eval x = .slice ao2 m c2) (hl : Lay f w ao2 m l2) (hm : n + m ≤ 100000) (hb : b ≤ 100000)
    (h : ∀ ao' cap' w1, Own e c f T w1 ao' (n + m) cap' (l ++ l2) → (∃ y, w1 = plus T y) → w.grownBy w1 (Value.ownBlock (.slice ao n cap)) → K (a.put o.dst (.slice ao' (n + m) cap')) w1) : o.wp P a w K Q := by
  obtain ⟨ao', cap', w1, hr, h2, h3, h4⟩ := run_append_lay2 (ty := o.type) hk hc h1 hT hown c2 hl (by unfold maxLen; omega) (Nat.le_trans (Nat.mul_le_mul hm hb) (by decide))
  unfold Oper.wp execOp
  simp only [ho, resolve, invoke, builtin, Sem.run_bind, Sem.run_pure, Result.andThen_ok, List.map_toArray, List.map_cons, List.map_nil, hs, hx, hr]
  exact h ao' cap' w1 h2 h3 h4

theorem wpList_append_lay2 {ops : Array Oper} {rest : List Oper} (hgd : o.guard = none) (s x : Operand) (ho : o.op = .call { callee := .builtin .append, args := #[s, x], argTypes := #[t, t] }) (hk : Kin P t e c b) (hc : ∀ x, (f x).length = c) (h1 : ∀ x, ∀ u ∈ f x, u.oneCell' = true)
    (hs : a.eval s = .slice ao n cap) (hT : ∃ y, w = plus T y) (hown : Own e c f T w ao n cap l) (hx : a.eval x = .slice ao2 m c2) (hl : Lay f w ao2 m l2) (hm : n + m ≤ 100000) (hb : b ≤ 100000)
    (h : ∀ ao' cap' w1, Own e c f T w1 ao' (n + m) cap' (l ++ l2) → (∃ y, w1 = plus T y) → w.grownBy w1 (Value.ownBlock (.slice ao n cap)) → wpList P ops Q rest (a.put o.dst (.slice ao' (n + m) cap')) w1) : wpList P ops Q (o :: rest) a w :=
  wpList_plain hgd fun _ hK => wp_append_lay2 s x ho hk hc h1 hs hT hown hx hl hm hb fun ao' cap' w1 h2 h3 h4 => hK _ _ (h ao' cap' w1 h2 h3 h4)

theorem grown_blk {g : Nat} {cur : Array Value} (hgr : w.grownBy w1 (Value.ownBlock (.slice ao n cap))) (hown : Own e c f T w ao n cap l) (hb : w.heap[g]? = some (.cells cur e')) (he : e' ≠ e) : w1.heap[g]? = some (.cells cur e') := by
  rw [hgr.block g (blk_lt hb) ?_]
  · exact hb
  · intro e0
    cases ao with
    | none => simp [Value.ownBlock] at e0
    | some a0 =>
      simp only [Value.ownBlock, Option.some.injEq] at e0
      rcases hown.2.2 with ⟨h1, _⟩ | ⟨k, cp, cu, h1, h2, h3, _⟩
      · simp at h1
      · simp only [Value.slice.injEq, Option.some.injEq] at h1
        rw [h1.1] at e0
        simp only at e0
        rw [← e0, hb] at h3
        cases h3
        exact he rfl

theorem grown_own (hgr : w.grownBy w1 (Value.ownBlock (.slice ao n cap))) (hown : Own e c f T w ao n cap l) (h : Own e' c' f' T' w ao2 m c2 l') (he : e' ≠ e) : Own e' c' f' T' w1 ao2 m c2 l' := by
  refine ⟨h.1, h.2.1, h.2.2.imp id ?_⟩
  rintro ⟨k, cp, cu, h1, h2, h3, h4⟩
  exact ⟨k, cp, cu, h1, h2, grown_blk hgr hown h3 he, h4⟩

end

end

section


open Go.RowKit Go.ChangeShapes Go.WideShapes Go.ChangeAt

set_option linter.unusedSimpArgs false

set_option linter.unusedVariables false

attribute [local go_sem] plus_size plus_drew dn_set dn_alloc dn_plus plus_dn cell_plus frozen_plus set_plus cell_alloc frozen_alloc set_alloc

theorem wrap_le {n : Int} (h : 0 ≤ n ∧ n ≤ 9223372036854775807) : IntKind.i64.wrap n = n := by
  simp [IntKind.wrap, IntKind.bits, IntKind.signed]
  omega

theorem ex_more {T : World} {x : List More} {d : Nat} : ∃ y, plus T [⟨blocks x, d⟩] = plus (plus T x) y := ⟨[⟨#[], d⟩], by simp [plus, blocks, draws]⟩
theorem sn0 {w w' : World} (h : ∃ y, w' = plus w y := by with_reducible repeat (first | exact ex_refl _ | exact ex_more | apply ex_alloc | apply ex_plus | apply ex_drew | apply ex_drewN | (apply ex_on; assumption))) : ∃ y, w' = plus w y := h
theorem sk0 {w w' : World} (h : ∃ y, w' = plus w y := by with_reducible repeat (first | exact ex_refl _ | exact ex_more | apply ex_alloc | apply ex_plus | apply ex_drew | apply ex_drewN)) : ∃ y, w' = plus w y := h

theorem info_parts' {P : Program} {e : TypeId} {z : Value} {c b : Nat} (h : (P.info? e).map (fun i => (i.zero, i.size, i.bytes)) = some (some z, c, b)) (hc : z.cells.size = c) : ∃ i z, P.info? e = some i ∧ i.zero = some z ∧ i.size = c ∧ i.bytes = b ∧ z.cells.size = c := by
  obtain ⟨i0, hi, hz0, hz1, hz2⟩ := info_parts h
  exact ⟨i0, z, hi, hz0, hz1, hz2, hc⟩

theorem kinS : Kin Tryz.prog 22 86 2 16 := ⟨Tryz.underlying22, info_parts' (z := .agg #[.int .i64 0, .bool false]) (by kernel_rfl) rfl, by decide⟩

theorem kinH : Kin Tryz.prog 88 32 2 16 := ⟨Tryz.underlying88, info_parts' (z := .agg #[.int .i64 0, .int .i64 0]) (by kernel_rfl) rfl, by decide⟩

def fS (s : Sl) : List Value := [.int .i64 s.gen, .bool s.live]

theorem fS_c : ∀ x, (fS x).length = 2 := fun _ => rfl

theorem fS_1 : ∀ x, ∀ u ∈ fS x, u.oneCell' = true := by intro x u hu; simp only [fS, List.mem_cons, List.not_mem_nil, or_false] at hu; rcases hu with rfl | rfl <;> rfl

theorem cellS {w : World} {g off n k : Nat} {l : List Sl} (hl : l.length = n) (h : ∀ j u, (l.flatMap fS)[j]? = some u → w.cell? ⟨g, off + j, none⟩ = some u) (hk : k < n) :
    w.cell? ⟨g, off + k * 2, none⟩ = some (.int .i64 (nth dSl l k).gen) ∧ w.cell? ⟨g, off + k * 2 + 1, none⟩ = some (.bool (nth dSl l k).live) := by
  have h0 := cell_nth (d := dSl) hl fS_c h k 0 _ hk (by decide) rfl
  have h1 := cell_nth (d := dSl) hl fS_c h k 1 _ hk (by decide) rfl
  rw [Nat.add_zero] at h0
  rw [← Nat.add_assoc] at h1
  exact ⟨h0, h1⟩

theorem upto_succ {p : Nat → Prop} {k : Nat} (h : ∀ j, j < k → p j) (hk : p k) : ∀ j, j < k + 1 → p j := by
  intro j hj
  rcases Nat.lt_or_eq_of_le (Nat.le_of_lt_succ hj) with e | e
  · exact h j e
  · exact e ▸ hk

theorem all_bad {α : Type} {p : α → Bool} {d : α} {l : List α} {k : Nat} (hk : k < l.length) (h : p (nth d l k) = false) : l.all p = false := all_not hk h

end

section


open Go.RowKit Go.ChangeShapes Go.WideShapes Go.ChangeAt

set_option linter.unusedSimpArgs false

set_option linter.unusedVariables false

attribute [local go_sem] plus_size plus_drew dn_set dn_alloc dn_plus plus_dn cell_plus frozen_plus set_plus cell_alloc frozen_alloc set_alloc

def allH (l : List Sl) : Nat → List (Int × Int)
  | 0 => []
  | k + 1 => allH l k ++ (if (nth dSl l k).live = true then [((k : Int), (nth dSl l k).gen)] else [])

theorem allH_le (l : List Sl) : ∀ k, (allH l k).length ≤ k
  | 0 => Nat.le_refl _
  | k + 1 => by
    have := allH_le l k
    unfold allH
    rw [List.length_append]
    split
    · simp only [List.length_cons, List.length_nil]; omega
    · simp only [List.length_nil]; omega

def eqS (a b : Sl) : Bool := decide (a.gen = b.gen ∧ a.live = b.live)

def sameS (l l2 : List Sl) : Bool := sameL eqS dSl l l2

def allErr (l : List Sl) : Int := if arOk l = true then 0 else 8

def allList (l : List Sl) : List (Int × Int) := if arOk l = true then allH l l.length else []

end

section


open Go.RowKit Go.ChangeShapes Go.WideShapes Go.ChangeAt

set_option linter.unusedSimpArgs false

set_option linter.unusedVariables false

attribute [local go_sem] plus_size plus_drew dn_set dn_alloc dn_plus plus_dn cell_plus frozen_plus set_plus cell_alloc frozen_alloc set_alloc

end

section


open Go.RowKit Go.ChangeShapes Go.WideShapes Go.ChangeAt

set_option linter.unusedSimpArgs false

set_option linter.unusedVariables false

attribute [local go_sem] plus_size plus_drew dn_set dn_alloc dn_plus plus_dn cell_plus frozen_plus set_plus cell_alloc frozen_alloc set_alloc

def killRes (l : List Sl) (s g : Int) : List Sl := if killErr l s g = 0 then killList l s else []

def RetA (w : World) (l : List Sl) (r : Int) (e : Ending) (w' : World) : Prop := ∃ ao' cap', e = .returned (.tuple #[.agg #[.slice ao' l.length cap'], .int .i64 r]) ∧ (∃ y, w' = plus w y) ∧ Own 86 2 fS w w' ao' l.length cap' l

end

section


open Go.RowKit

section

variable {P : Program} {md : Region.Mode} {ops : Array Oper} {Q : Exit → Act → World → Prop}

variable {n : Nat} {S : Nat → List Nat} {Φ : Nat → (Nat → Value) → World → Prop} {a0 : Act} {w0 : World} {G : World → World → Prop}

structure RelInv3 (G : World → World → Prop) (md : Region.Mode) (ops : Array Oper) (n : Nat) (Φ : Nat → (Nat → Value) → World → Prop) (a0 : Act) (w0 : World) (L : Array Bool) (a : Act) (w : World) : Prop where
  size : L.size = ops.size
  tsz : a.tmps.size = a0.tmps.size
  dfs : a.defers = a0.defers
  free : ∀ s, (∀ (j : Nat) (o : Oper), ops[j]? = some o → L.getD j false = true → o.dst ≠ some s) → got a s = got a0 s
  grow : G w0 w
  rel : ∀ i, L.getD i false = true → Φ i (got a) w
  shut : ∀ i k, L.getD i false = true → Region.waitsFor md ops i k = true → L.getD k false = true
  front : ∀ i, n ≤ i → L.getD i false = false

theorem rel_step3 (hG : ∀ w1 w2 w3, G w1 w2 → G w2 w3 → G w1 w3) (hF : RelFacts2 md ops n S a0.tmps.size) (hmono : ∀ i t t' w w', Φ i t w → (∀ s ∈ S i, t' s = t s) → G w w' → Φ i t' w') {L : Array Bool} {a a' : Act} {w w' : World} {i : Nat} {o : Oper} {v : Value}
    (h : RelInv3 G md ops n Φ a0 w0 L a w) (hi : i ∈ Region.ready md ops L) (hin : i < n) (ho : ops[i]? = some o) (ha : a' = a.put o.dst v) (hw : G w w') (hΦ : Φ i (upd (got a) o.dst v) w') :
    RelInv3 G md ops n Φ a0 w0 (L.setIfInBounds i true) a' w' := by
  obtain ⟨hiL, hiS⟩ := getD_false2 (mem_ready.1 hi).1
  have hgp : got a' = upd (got a) o.dst v := by
    rw [ha]
    exact got_put fun s hs => by rw [h.tsz]; exact hF.slot i o ho s hs
  have hS : Shut md ops ops.size L := fun j k _ hj hk => h.shut j k hj hk
  have hset : ∀ j, (L.setIfInBounds i true).getD j false = true → j = i ∨ L.getD j false = true := by
    intro j hj
    by_cases e : i = j
    · exact .inl e.symm
    · exact .inr (getD_unset L i j e hj)
  have hdeep : ∀ j, deepB md ops ops.size 8 j i = true → L.getD j false = true → False := by
    intro j hd hj
    have := deep_listed hS 8 j i (fun k hk => h.shut j k hj hk) hd
    rw [hiL] at this
    cases this
  refine ⟨by rw [Array.size_setIfInBounds]; exact h.size, ?_, ?_, ?_, hG _ _ _ h.grow hw, ?_, ?_, ?_⟩
  · rw [ha, ← h.tsz]
    cases o.dst <;> simp [Act.put]
  · rw [ha, ← h.dfs]
    cases o.dst <;> simp [Act.put]
  · intro s hs
    have h1 : o.dst ≠ some s := hs i o ho (by simp [hiS])
    rw [hgp]
    unfold upd
    rw [if_neg h1]
    exact h.free s fun j oj hj hL => hs j oj hj (getD_set L i j hL)
  · intro j hj
    rcases hset j hj with rfl | hj'
    · rw [hgp]; exact hΦ
    · by_cases e : j = i
      · subst e; rw [hgp]; exact hΦ
      refine hmono j (got a) (got a') w w' (h.rel j hj') (fun s hs => ?_) hw
      rw [hgp]
      unfold upd
      by_cases hd : o.dst = some s
      · exfalso
        have hjn : j < n := by
          rcases Nat.lt_or_ge j n with h' | h'
          · exact h'
          · rw [h.front j h'] at hj'; cases hj'
        have hjs : j < ops.size := by
          rw [← h.size]
          rcases Nat.lt_or_ge j L.size with h' | h'
          · exact h'
          · simp [Array.getElem?_eq_none h'] at hj'
        exact hdeep j (hF.late j i o s hjn hjs ho hd hs e) hj'
      · rw [if_neg hd]
  · intro j k hj hk
    rcases hset j hj with rfl | hj'
    · exact getD_set L _ k (waits_ready2 hi hk)
    · exact getD_set L i k (h.shut j k hj' hk)
  · intro j hj
    have e : i ≠ j := by omega
    have h1 := h.front j hj
    cases h2 : (L.setIfInBounds i true).getD j false with
    | false => rfl
    | true => rw [getD_unset L i j e h2] at h1; cases h1

def Steps3 (G : World → World → Prop) (P : Program) (md : Region.Mode) (ops : Array Oper) (n : Nat) (Φ : Nat → (Nat → Value) → World → Prop) (a0 : Act) (w0 : World) (Q : Exit → Act → World → Prop) : List Oper → Nat → Prop
  | [], _ => True
  | o :: r, i => (∀ a w, G w0 w → (∀ s, (ops.any fun o => o.dst == some s) = false → got a s = got a0 s) → (∀ j, deepB md ops ops.size 8 i j = true → Φ j (got a) w) →
      o.wp P a w (fun a' w' => ∃ v, a' = a.put o.dst v ∧ G w w' ∧ Φ i (upd (got a) o.dst v) w') Q) ∧ Steps3 G P md ops n Φ a0 w0 Q r (i + 1)

theorem steps_at3 : ∀ (l : List Oper) (k : Nat), Steps3 G P md ops n Φ a0 w0 Q l k → ∀ (i : Nat) (o : Oper), l[i]? = some o → ∀ a w, G w0 w → (∀ s, (ops.any fun o => o.dst == some s) = false → got a s = got a0 s) → (∀ j, deepB md ops ops.size 8 (k + i) j = true → Φ j (got a) w) →
      o.wp P a w (fun a' w' => ∃ v, a' = a.put o.dst v ∧ G w w' ∧ Φ (k + i) (upd (got a) o.dst v) w') Q
  | [], _, _, i, o, ho => by simp at ho
  | o :: r, k, h, 0, o', ho => by
    simp only [List.getElem?_cons_zero, Option.some.injEq] at ho
    subst ho
    exact h.1
  | o :: r, k, h, i + 1, o', ho => by
    have := steps_at3 r (k + 1) h.2 i o' (by simpa using ho)
    rwa [show k + 1 + i = k + (i + 1) by omega] at this

theorem free_of3 {a : Act} {L : Array Bool} {w : World} (h : RelInv3 G md ops n Φ a0 w0 L a w) : ∀ s, (ops.any fun o => o.dst == some s) = false → got a s = got a0 s := by
  intro s hs
  refine h.free s fun j o ho _ hd => ?_
  have : (ops.any fun o => o.dst == some s) = true := by
    rw [Array.any_eq_true']
    exact ⟨o, Array.mem_of_getElem? ho, by simp [hd]⟩
  rw [hs] at this
  cases this

theorem region_relG {id : Nat} {l : List Oper} (n : Nat) (S : Nat → List Nat) (Φ : Nat → (Nat → Value) → World → Prop) {a : Act} {w : World} (G : World → World → Prop) (hG : ∀ w1 w2 w3, G w1 w2 → G w2 w3 → G w1 w3) (hd : G w { w with drawn := w.drawn + 1 }) (hm : P.follows .mixedOrders = true) (hB : relB2 .any l.toArray n S a.tmps.size = true) (hn : n ≤ l.length)
    (hmono : ∀ i t t' w w', Φ i t w → (∀ s ∈ S i, t' s = t s) → G w w' → Φ i t' w')
    (hst : Steps3 G P .any l.toArray n Φ a w Q (l.take n) 0)
    (hend : ∀ t w', G w w' → (∀ j, j < n → Φ j t w') → wpList P l.toArray Q (l.drop n) (putAll t (l.take n) a) w') : (Code.region id l.toArray true).wp P Q a w := by
  have hF := relB_facts2 hB
  have hsize : l.toArray.size = l.length := by simp
  have hrest : ∀ t w', G w w' → (∀ j, j < n → Φ j t w') → wpOps P l.toArray Q (List.range' n (l.length - n)) (putAll t (l.take n) a) w' := by
    intro t w' h1 h2
    have h := hend t w' h1 h2
    have e := wpOps_eq_wpList (P := P) (Q := Q) (ops := l.toArray) (l.drop n) n (fun j => by simp)
    rw [List.length_drop] at e
    rw [e]
    exact h
  refine wp_region_any hm ?_
  refine wpAny_inv (I := fun L a' w' => (L.size = l.length ∧ RelInv3 G .any l.toArray n Φ a w L a' w') ∨ (L.size = l.length ∧ ∃ i, n ≤ i ∧ i ≤ l.length ∧ (∀ j, L.getD j false = decide (j < i)) ∧ wpOps P l.toArray Q (List.range' i (l.length - i)) a' w')) ?_ ?_ _ _ _ _ ?_ ?_
  · have key : ∀ L a' w' i k, L.size = l.length → n ≤ k → k ≤ l.length → (∀ j, L.getD j false = decide (j < k)) → wpOps P l.toArray Q (List.range' k (l.length - k)) a' w' → i ∈ Region.ready .any l.toArray L →
        wpOp P l.toArray Q i (fun a' w' => ((L.setIfInBounds i true).size = l.length ∧ RelInv3 G .any l.toArray n Φ a w (L.setIfInBounds i true) a' w') ∨ ((L.setIfInBounds i true).size = l.length ∧ ∃ k, n ≤ k ∧ k ≤ l.length ∧ (∀ j, (L.setIfInBounds i true).getD j false = decide (j < k)) ∧ wpOps P l.toArray Q (List.range' k (l.length - k)) a' w')) a' w' := by
      intro L a' w' i k hs hnk hkl hL hw hi
      obtain ⟨hiL, o, ho, hall⟩ := mem_ready.1 hi
      obtain ⟨hiL2, hiS⟩ := getD_false2 hiL
      have hik : k ≤ i := by
        rw [hL i] at hiL2
        simpa using hiL2
      obtain rfl : i = k := by
        rcases Nat.eq_or_lt_of_le hik with e | hlt
        · exact e.symm
        · exfalso
          have hd := hF.last i k (by omega) (by simp; omega) hlt
          have hS : Shut .any l.toArray l.toArray.size L := by
            intro p q hp hp2 hq
            rw [hL p] at hp2
            rw [hL q]
            obtain ⟨oj, h1, e, he, hb, hon⟩ := Region.waitsFor_spec hq
            have := hF.back p oj h1 e he hb
            simp at hp2 ⊢
            omega
          have := deep_listed hS 8 i k (fun q hq => waits_ready2 hi hq) hd
          rw [hL k] at this
          simp at this
      have e1 : List.range' i (l.length - i) = i :: List.range' (i + 1) (l.length - (i + 1)) := by
        rw [show l.length - i = (l.length - (i + 1)) + 1 by omega, List.range'_succ]
      rw [e1, wpOps_cons] at hw
      refine wpOp_mono (fun a2 w2 h2 => .inr ⟨by rw [Array.size_setIfInBounds]; exact hs, i + 1, by omega, by omega, fun j => ?_, h2⟩) hw
      by_cases e : i = j
      · subst e
        simp [hiS]
      · have h3 := hL j
        have h4 : (L.setIfInBounds i true).getD j false = L.getD j false := by simp [e]
        rw [h4, h3]
        have : (j < i) ↔ (j < i + 1) := by omega
        simp [this]
    rintro L a' w' i (⟨hs, h⟩ | ⟨hs, k, hnk, hkl, hL, hw⟩) hi
    · by_cases hin : i < n
      · obtain ⟨hiL, o, ho, hall⟩ := mem_ready.1 hi
        have hS : Shut .any l.toArray l.toArray.size L := fun j k _ hj hk => h.shut j k hj hk
        have hdl : ∀ j, deepB .any l.toArray l.toArray.size 8 i j = true → L.getD j false = true := fun j hd => deep_listed hS 8 i j (fun k hk => waits_ready2 hi hk) hd
        unfold wpOp
        simp only [ho]
        have hwt : Region.wanted o (yielded l.toArray a'.tmps) = true := by simp [Region.wanted, hF.guard i o ho]
        rw [if_pos hwt]
        left
        have hol : (l.take n)[i]? = some o := by rw [List.getElem?_take, if_pos hin]; simpa using ho
        have hw := steps_at3 (l.take n) 0 hst i o hol a' w' h.grow (free_of3 h) (fun j hd => h.rel j (hdl j (by rwa [Nat.zero_add] at hd)))
        rw [Nat.zero_add] at hw
        exact Oper.wp_mono (fun a2 w2 ⟨v, e1, e2, e3⟩ => .inl ⟨by rw [Array.size_setIfInBounds]; exact hs, rel_step3 hG hF hmono h hi hin ho e1 e2 e3⟩) hw
      · obtain ⟨hiL, o, ho, hall⟩ := mem_ready.1 hi
        have hil : i < l.length := by simpa using (Array.getElem?_eq_some_iff.1 ho).1
        have hS : Shut .any l.toArray l.toArray.size L := fun j k _ hj hk => h.shut j k hj hk
        have hall2 : ∀ j, j < i → L.getD j false = true := fun j hj => deep_listed hS 8 i j (fun k hk => waits_ready2 hi hk) (hF.last i j (by omega) (by simp; omega) hj)
        have hin2 : i = n := by
          rcases Nat.lt_or_ge n i with h1 | h1
          · have h2 := hall2 n h1
            rw [h.front n (Nat.le_refl _)] at h2
            cases h2
          · omega
        subst hin2
        have ha : a' = putAll (got a') (l.take i) a := by
          have hp := putAll_size (got a') (l.take i) a
          refine act_ext (h.tsz.trans hp.1.symm) (h.dfs.trans hp.2.symm) fun s hs => ?_
          rw [putAll_got _ _ _ _ (by rw [← h.tsz]; exact hs)]
          cases hany : (l.take i).any fun o => o.dst == some s with
          | true => simp
          | false =>
            simp only [Bool.false_eq_true, if_false]
            refine h.free s fun j oj hj hL hd => ?_
            have hjn : j < i := by
              rcases Nat.lt_or_ge j i with h' | h'
              · exact h'
              · rw [h.front j h'] at hL; cases hL
            have : ((l.take i).any fun o => o.dst == some s) = true := List.any_eq_true.2 ⟨oj, List.mem_of_getElem? (i := j) (by rw [List.getElem?_take, if_pos hjn]; simpa using hj), by simp [hd]⟩
            rw [hany] at this
            cases this
        have hw := hrest (got a') w' h.grow (fun j hj => h.rel j (hall2 j hj))
        rw [← ha] at hw
        refine key L a' w' i i hs (Nat.le_refl _) (by omega) (fun j => ?_) hw hi
        by_cases hj : j < i
        · rw [hall2 j hj, decide_eq_true hj]
        · rw [h.front j (by omega), decide_eq_false hj]
    · exact key L a' w' i k hs hnk hkl hL hw hi
  · rintro L a' w' (⟨hs, h⟩ | ⟨hs, k, hnk, hkl, hL, hw⟩) hr
    · have hall := all_listed2 hF (by rw [hs, hsize]) hr
      have hnl : l.length = n := by
        rcases Nat.lt_or_ge n l.length with h1 | h1
        · have := hall n (by simpa using h1)
          rw [h.front n (Nat.le_refl _)] at this
          cases this
        · omega
      have ha : a' = putAll (got a') (l.take n) a := by
        have hp := putAll_size (got a') (l.take n) a
        refine act_ext (h.tsz.trans hp.1.symm) (h.dfs.trans hp.2.symm) fun s hs => ?_
        rw [putAll_got _ _ _ _ (by rw [← h.tsz]; exact hs)]
        cases hany : (l.take n).any fun o => o.dst == some s with
        | true => simp
        | false =>
          simp only [Bool.false_eq_true, if_false]
          refine h.free s fun j oj hj hL hd => ?_
          have hjn : j < n := by
            rcases Nat.lt_or_ge j n with h' | h'
            · exact h'
            · rw [h.front j h'] at hL; cases hL
          have : ((l.take n).any fun o => o.dst == some s) = true := List.any_eq_true.2 ⟨oj, List.mem_of_getElem? (i := j) (by rw [List.getElem?_take, if_pos hjn]; simpa using hj), by simp [hd]⟩
          rw [hany] at this
          cases this
      have hw := hrest (got a') w' h.grow (fun j hj => h.rel j (hall j (by simp; omega)))
      rw [← ha, hnl, Nat.sub_self] at hw
      exact hw
    · have hall := all_listed2 (n := n) (S := S) (a0 := a) hF (by rw [hs, hsize]) hr
      obtain rfl : k = l.length := by
        rcases Nat.lt_or_ge k l.length with h1 | h1
        · have := hall k (by simpa using h1)
          rw [hL k] at this
          simp at this
        · omega
      rw [Nat.sub_self] at hw
      exact hw
  · unfold unlisted
    exact Nat.le_trans (List.length_filter_le _ _) (by simp)
  · left
    refine ⟨by simp, by simp, rfl, rfl, fun s _ => rfl, hd, ?_, ?_, ?_⟩
    · intro i hi
      by_cases hl : i < l.length <;> simp [hl] at hi
    · intro i k hi
      by_cases hl : i < l.length <;> simp [hl] at hi
    · intro i _
      by_cases hl : i < l.length <;> simp [hl]

end

end

section


open Go.RowKit

structure Two (b1 : Nat) (o1 : Obj) (b2 : Nat) (o2 : Obj) (w w' : World) : Prop where
  os : w'.os = w.os
  tape : w'.tape = w.tape
  output : w'.output = w.output
  size : w.heap.size ≤ w'.heap.size
  rest : ∀ k, k < w.heap.size → k ≠ b1 → k ≠ b2 → w'.heap[k]? = w.heap[k]?
  one : w'.heap[b1]? = w.heap[b1]? ∨ w'.heap[b1]? = some o1
  two : w'.heap[b2]? = w.heap[b2]? ∨ w'.heap[b2]? = some o2

section

variable {b1 b2 : Nat} {o1 o2 : Obj} {w w1 w2 w3 : World}

theorem two_refl (w : World) : Two b1 o1 b2 o2 w w := ⟨rfl, rfl, rfl, Nat.le_refl _, fun _ _ _ _ => rfl, .inl rfl, .inl rfl⟩

theorem two_draw (w : World) : Two b1 o1 b2 o2 w { w with drawn := w.drawn + 1 } := ⟨rfl, rfl, rfl, Nat.le_refl _, fun _ _ _ _ => rfl, .inl rfl, .inl rfl⟩

theorem two_trans : ∀ w1 w2 w3 : World, Two b1 o1 b2 o2 w1 w2 → Two b1 o1 b2 o2 w2 w3 → Two b1 o1 b2 o2 w1 w3 := by
  intro w1 w2 w3 h1 h2
  refine ⟨h2.os.trans h1.os, h2.tape.trans h1.tape, h2.output.trans h1.output, Nat.le_trans h1.size h2.size, fun k hk n1 n2 => ?_, ?_, ?_⟩
  · rw [h2.rest k (Nat.lt_of_lt_of_le hk h1.size) n1 n2]
    exact h1.rest k hk n1 n2
  · rcases h2.one with e | e
    · rw [e]; exact h1.one
    · exact .inr e
  · rcases h2.two with e | e
    · rw [e]; exact h1.two
    · exact .inr e

theorem two_cell {g i : Nat} {v : Value} (h : Two b1 o1 b2 o2 w w1) (hc : w.cell? ⟨g, i, none⟩ = some v) (n1 : g ≠ b1) (n2 : g ≠ b2) : w1.cell? ⟨g, i, none⟩ = some v := by
  have hg := cell_lt hc
  rw [World.cell?_of_block (w := w) (h.rest g hg n1 n2)]
  exact hc

theorem two_one {o : Obj} (h : Two b1 o1 b2 o2 w w1) (hb : w.heap[b1]? = some o) : w1.heap[b1]? = some o ∨ w1.heap[b1]? = some o1 := by
  rcases h.one with e | e
  · exact .inl (e.trans hb)
  · exact .inr e

theorem two_two {o : Obj} (h : Two b1 o1 b2 o2 w w1) (hb : w.heap[b2]? = some o) : w1.heap[b2]? = some o ∨ w1.heap[b2]? = some o2 := by
  rcases h.two with e | e
  · exact .inl (e.trans hb)
  · exact .inr e

theorem two_set1 {i : Nat} {u : Value} (hne : b1 ≠ b2) (h : (w.setCell ⟨b1, i, none⟩ u).heap[b1]? = some o1) : Two b1 o1 b2 o2 w (w.setCell ⟨b1, i, none⟩ u) :=
  ⟨rfl, rfl, rfl, by rw [size_set]; exact Nat.le_refl _, fun k _ n1 _ => blk_set_ne (fun e => n1 e.symm), .inr h, .inl (blk_set_ne hne)⟩

theorem two_set2 {i j : Nat} {u v : Value} (hne : b1 ≠ b2) (h : ((w.setCell ⟨b2, i, none⟩ u).setCell ⟨b2, j, none⟩ v).heap[b2]? = some o2) : Two b1 o1 b2 o2 w ((w.setCell ⟨b2, i, none⟩ u).setCell ⟨b2, j, none⟩ v) :=
  ⟨rfl, rfl, rfl, by rw [size_set, size_set]; exact Nat.le_refl _, fun k _ _ n2 => (blk_set_ne (fun e => n2 e.symm)).trans (blk_set_ne (fun e => n2 e.symm)), .inl ((blk_set_ne (fun e => hne e.symm)).trans (blk_set_ne (fun e => hne e.symm))), .inr h⟩

theorem two_ex {T : World} (h : Two b1 o1 b2 o2 w w1) (hw : ∃ y, w = plus T y) (h1 : T.heap.size ≤ b1) (h2 : T.heap.size ≤ b2) : ∃ y, w1 = plus T y := by
  obtain ⟨y, rfl⟩ := hw
  apply below_plus
  have hb := plus_below T y
  refine ⟨h.os.trans hb.os, h.tape.trans hb.tape, h.output.trans hb.output, Nat.le_trans hb.size h.size, fun n hn => ?_⟩
  have hlt : n < (plus T y).heap.size := Nat.lt_of_lt_of_le hn hb.size
  rw [h.rest n hlt (by omega) (by omega)]
  exact hb.block n hn

end

theorem Own.two {α : Type} {f : α → List Value} {b1 b2 : Nat} {o1 o2 : Obj} {w w1 T : World} {ao : Option Addr} {n cap c : Nat} {l : List α} {e e1 e2 : TypeId} {c1 c2 : Array Value} (h : Own e c f T w ao n cap l) (ht : Two b1 o1 b2 o2 w w1) (h1 : w.heap[b1]? = some (.cells c1 e1)) (h2 : w.heap[b2]? = some (.cells c2 e2)) (n1 : e1 ≠ e) (n2 : e2 ≠ e) : Own e c f T w1 ao n cap l := by
  refine ⟨h.1, h.2.1, h.2.2.imp id ?_⟩
  rintro ⟨k, cp, cu, a1, a2, a3, a4⟩
  refine ⟨k, cp, cu, a1, a2, ?_, a4⟩
  rw [ht.rest k (blk_lt a3) ?_ ?_]
  · exact a3
  · intro e0
    rw [e0, h1] at a3
    cases a3
    exact n1 rfl
  · intro e0
    rw [e0, h2] at a3
    cases a3
    exact n2 rfl

end

section


open Go.RowKit Go.ChangeShapes Go.WideShapes Go.ChangeAt

set_option linter.unusedSimpArgs false

set_option linter.unusedVariables false

attribute [local go_sem] plus_size plus_drew dn_set dn_alloc dn_plus plus_dn cell_plus frozen_plus set_plus cell_alloc frozen_alloc set_alloc

def mkRes (l : List Sl) : List Sl := if mkErr l = 0 then mkList l else []

def mkS (l : List Sl) : Int := if mkErr l = 0 then mkSlot l else 0

def mkG (l : List Sl) : Int := if mkErr l = 0 then mkGen l else 0

def RetM (w : World) (l : List Sl) (s g r : Int) (e : Ending) (w' : World) : Prop := ∃ ao' cap', e = .returned (.tuple #[.agg #[.slice ao' l.length cap'], .agg #[.int .i64 s, .int .i64 g], .int .i64 r]) ∧ (∃ y, w' = plus w y) ∧ Own 86 2 fS w w' ao' l.length cap' l

def m10S (i : Nat) : List Nat := match i with | 0 => [52] | 1 => [53] | 2 => [54] | 3 => [55] | 4 => [56] | 5 => [57] | 6 => [58] | 7 => [59] | 8 => [60] | 11 => [4] | _ => []

def m10Φ (q g1 n c1 k : Nat) (gn : Int) (b1 : Nat) (o1 : Obj) (b2 : Nat) (o2 : Obj) (i : Nat) (t : Nat → Value) (w' : World) : Prop := match i with
  | 0 => t 52 = .agg #[.slice (some ⟨g1, 0, none⟩) n c1]
  | 1 => t 53 = .int .i64 k
  | 2 => t 54 = .pointer (some ⟨q, 0, none⟩)
  | 3 => t 55 = .slice (some ⟨g1, 0, none⟩) n c1
  | 4 => t 56 = .int .i64 k
  | 5 => t 57 = .pointer (some ⟨g1, k * 2, none⟩)
  | 6 => t 58 = .pointer (some ⟨g1, k * 2, none⟩)
  | 7 => t 59 = .int .i64 gn
  | 8 => t 60 = .agg #[.int .i64 k, .int .i64 gn]
  | 9 => w'.heap[b1]? = some o1
  | 10 => w'.heap[b2]? = some o2
  | 11 => t 4 = .int .i64 0
  | _ => True

end

section


open Go.RowKit

set_option linter.unusedSimpArgs false

section

variable {α : Type} {f : α → List Value} {P : Program} {w W : World} {ao : Option Addr} {n m cap c c2 b g o0 : Nat} {l : List α} {e t t2 : TypeId} {cur : Array Value}

theorem run_copy_lay {ty : TypeId} (hk : Kin P t e c b) (hc : ∀ x, (f x).length = c) (h1 : ∀ x, ∀ u ∈ f x, u.oneCell' = true) (hg : w.heap[g]? = some (.cells cur e)) (hl : Lay f w ao m l) (hmn : m ≤ n) (hfit : o0 + m * c ≤ cur.size) :
    (Builtin.copy_ #[t, t2] ty #[.slice (some ⟨g, o0, none⟩) n cap, .slice ao m c2]).run P w = .ok (goInt m) (w.setRow g (cur.toList.take o0 ++ l.flatMap f ++ cur.toList.drop (o0 + m * c)).toArray) := by
  obtain ⟨i, z, hi, _, hz1, _, _⟩ := hk.info
  have hlen : (l.flatMap f).length = m * c := by rw [flat_length hc, hl.len]
  have hst := run_storeCells_at P g o0 e (l.flatMap f) 0 cur w hg (by rw [hlen]; simpa using hfit) (flat_one h1 l)
  rw [hlen] at hst
  have hmin : Nat.min m n = m := Nat.min_eq_left hmn
  by_cases h0 : m = 0
  · subst h0
    obtain rfl := hl.zero
    simp only [List.flatMap_nil, Nat.zero_mul, Nat.add_zero] at hst ⊢
    cases ao with
    | none => simp [Builtin.copy_, run_underlying hk.und, Builtin.lenOf, Builtin.firstCells, sizeOf, typeInfo, hi, hz1, hst]
    | some a0 => simp [Builtin.copy_, run_underlying hk.und, Builtin.lenOf, Builtin.firstCells, sizeOf, typeInfo, hi, hz1, hst, loadCells, loadCellsFrom]
  · obtain ⟨g2, off, rfl, hg2, hcell⟩ := hl.some (by omega)
    have hld := run_loadCells_list (P := P) w ⟨g2, off, none⟩ (l.flatMap f) (fun j u hu => by have hadd : (⟨g2, off, none⟩ : Addr).add j = ⟨g2, off + j, none⟩ := (by unfold Addr.add; split <;> simp_all); rw [hadd]; exact hcell j u hu)
    rw [hlen] at hld
    simp only [Nat.add_zero] at hst
    simp [Builtin.copy_, run_underlying hk.und, Builtin.lenOf, Builtin.firstCells, sizeOf, typeInfo, hi, hz1, hmin, hld, hst]

theorem setRow_alloc (W : World) (cur cs : Array Value) (e : TypeId) : (W.alloc (.cells cur e)).setRow W.heap.size cs = W.alloc (.cells cs e) := by
  unfold World.setRow World.alloc
  congr 1
  apply Array.ext_getElem?
  intro k
  simp only [Array.getElem?_modify, Array.getElem?_push]
  by_cases h : W.heap.size = k
  · subst h; simp
  · have h' : ¬ k = W.heap.size := fun e => h e.symm
    simp [h, h']

theorem setRow_alloc_past (W : World) (ob : Obj) (cs : Array Value) (h : g < W.heap.size) : (W.alloc ob).setRow g cs = (W.setRow g cs).alloc ob := by
  unfold World.setRow World.alloc
  congr 1
  apply Array.ext_getElem?
  intro k
  simp only [Array.getElem?_modify, Array.getElem?_push, Array.size_modify]
  by_cases hk : g = k
  · subst hk
    have : ¬ g = W.heap.size := by omega
    simp [this]
  · simp [hk]

theorem run_copy_new {ob : Obj} {ty : TypeId} (hk : Kin P t e c b) (hc : ∀ x, (f x).length = c) (h1 : ∀ x, ∀ u ∈ f x, u.oneCell' = true) (hg : g = W.heap.size) (hl : Lay f ((W.alloc (.cells cur e)).alloc ob) ao n l) (hsz : cur.size = n * c) :
    (Builtin.copy_ #[t, t2] ty #[.slice (some ⟨g, 0, none⟩) n cap, .slice ao n c2]).run P ((W.alloc (.cells cur e)).alloc ob) = .ok (goInt n) ((W.alloc (.cells (l.flatMap f).toArray e)).alloc ob) := by
  subst hg
  have hb : ((W.alloc (.cells cur e)).alloc ob).heap[W.heap.size]? = some (.cells cur e) := by
    rw [blk_alloc, if_neg (by simp), blk_alloc, if_pos rfl]
  have hrun := run_copy_lay (t2 := t2) (ty := ty) (cap := cap) (c2 := c2) (o0 := 0) hk hc h1 hb hl (Nat.le_refl _) (by omega)
  rw [setRow_alloc_past _ _ _ (by simp), setRow_alloc] at hrun
  simp only [List.take_zero, List.nil_append, Nat.zero_add] at hrun
  rw [List.drop_eq_nil_of_le (by simp; omega), List.append_nil] at hrun
  exact hrun

theorem own_row {T : World} (hl : l.length = n) (hc : ∀ x, (f x).length = c) (hg : w.heap[g]? = some (.cells (l.flatMap f).toArray e)) (hT : T.heap.size ≤ g) (hn : n ≤ maxLen) : Own e c f T w (some ⟨g, 0, none⟩) n n l := by
  have hlen : (l.flatMap f).length = n * c := by rw [flat_length hc, hl]
  exact ⟨hl, hlen, .inr ⟨g, n, _, rfl, hT, hg, Nat.le_refl _, hn, by simpa using hlen, List.take_of_length_le (Nat.le_of_eq hlen)⟩⟩

theorem run_make_lay (hk : ∃ i z, P.info? e = some i ∧ i.zero = some z ∧ i.size = c ∧ i.bytes = b ∧ z.cells.size = c) (hu : P.underlying t = some (.slice e)) (n : Nat) (hn : n ≤ 100000) (hb : b ≤ 100000) : ∃ cur : Array Value, cur.size = n * c ∧ ∀ w : World, (Instr.makeSlice t (.int .i64 n) (.int .i64 n)).run P w = .ok (.slice (some ⟨w.heap.size, 0, none⟩) n n) (w.alloc (.cells cur e)) := by
  obtain ⟨i, z, hi, hz, hz1, hz2, _⟩ := hk
  refine ⟨madeCells z.cells (n * c), size_madeCells _ _, fun w => ?_⟩
  have hb1 : i.bytes * n ≤ 281474976710656 := by
    rw [hz2]
    exact Nat.le_trans (Nat.mul_le_mul hb hn) (by decide)
  have h := run_make w t e i z hu hi hz .i64 .i64 n n (by omega) (Int.le_refl _) (by rw [← Int.natCast_mul]; omega) (by omega)
  rw [Int.toNat_natCast, hz1] at h
  exact h

end

end

section


open Go.RowKit Go.ChangeShapes Go.WideShapes Go.ChangeAt

set_option linter.unusedSimpArgs false

set_option linter.unusedVariables false

attribute [local go_sem] plus_size plus_drew dn_set dn_alloc dn_plus plus_dn cell_plus frozen_plus set_plus cell_alloc frozen_alloc set_alloc

structure RH where
  ao : Option Addr
  n : Nat
  cap : Nat

def dRH : RH := ⟨none, 0, 0⟩

def fR (h : RH) : List Value := [.slice h.ao h.n h.cap]

theorem fR_c : ∀ x, (fR x).length = 1 := fun _ => rfl

theorem fR_1 : ∀ x, ∀ u ∈ fR x, u.oneCell' = true := by intro x u hu; simp only [fR, List.mem_cons, List.not_mem_nil, or_false] at hu; subst hu; rfl

theorem kinR : Kin Tryz.prog 25 88 1 24 := ⟨Tryz.underlying25, info_parts' (z := .slice none 0 0) (by kernel_rfl) rfl, by decide⟩

theorem cellR {w : World} {g off n k : Nat} {l : List RH} (hl : l.length = n) (h : ∀ j u, (l.flatMap fR)[j]? = some u → w.cell? ⟨g, off + j, none⟩ = some u) (hk : k < n) : w.cell? ⟨g, off + k, none⟩ = some (.slice (nth dRH l k).ao (nth dRH l k).n (nth dRH l k).cap) := by
  have h0 := cell_nth (d := dRH) hl fR_c h k 0 _ hk (by decide) rfl
  rwa [Nat.mul_one, Nat.add_zero] at h0

structure GrAt (w : World) (ao : Option Addr) (n : Nat) (ko : Option Addr) (kn : Nat) (hs : List RH) (g : Gr) : Prop where
  sl : Lay fS w ao n g.sl
  kh : Lay fR w ko kn hs
  len : hs.length = g.ks.length
  row : ∀ k, k < hs.length → Lay f2 w (nth dRH hs k).ao (nth dRH hs k).n (nth [] g.ks k)
  n1 : n ≤ 1000
  n2 : kn ≤ 1000
  n3 : ∀ k, k < hs.length → (nth dRH hs k).n ≤ 1000
  n4 : ∀ k, k < hs.length → (nth dRH hs k).n ≤ (nth dRH hs k).cap
  n5 : ∀ k, k < hs.length → (nth dRH hs k).ao = none → (nth dRH hs k).n = 0 ∧ (nth dRH hs k).cap = 0

theorem GrAt.ex {w w' : World} {ao : Option Addr} {n : Nat} {ko : Option Addr} {kn : Nat} {hs : List RH} {g : Gr} (h : GrAt w ao n ko kn hs g) (hw : ∃ x, w' = plus w x) : GrAt w' ao n ko kn hs g :=
  ⟨h.sl.ex hw, h.kh.ex hw, h.len, fun k hk => (h.row k hk).ex hw, h.n1, h.n2, h.n3, h.n4, h.n5⟩

theorem GrAt.kl {w : World} {ao : Option Addr} {n : Nat} {ko : Option Addr} {kn : Nat} {hs : List RH} {g : Gr} (h : GrAt w ao n ko kn hs g) : g.ks.length = kn := h.len.symm.trans h.kh.len

theorem GrAt.rl {w : World} {ao : Option Addr} {n : Nat} {ko : Option Addr} {kn : Nat} {hs : List RH} {g : Gr} (h : GrAt w ao n ko kn hs g) {k : Nat} (hk : k < kn) : (nth [] g.ks k).length = (nth dRH hs k).n := (h.row k (by rw [h.kh.len]; exact hk)).len

def sameK (a b : List (List (Int × Int))) : Bool := sameL same2 [] a b

def sameG (a b : Gr) : Bool := sameS a.sl b.sl && sameK a.ks b.ks

def sumTo (hs : List RH) : Nat → Nat
  | 0 => 0
  | k + 1 => sumTo hs k + (nth dRH hs k).n

theorem sum_le (hs : List RH) (k : Nat) : ∀ j, sumTo hs k ≤ sumTo hs (k + j)
  | 0 => Nat.le_refl _
  | j + 1 => Nat.le_trans (sum_le hs k j) (Nat.le_add_right _ _)

theorem sum_at (hs : List RH) {k n : Nat} (hk : k < n) : (nth dRH hs k).n ≤ sumTo hs n := by
  have h1 := sum_le hs (k + 1) (n - (k + 1))
  rw [show k + 1 + (n - (k + 1)) = n by omega] at h1
  have : sumTo hs (k + 1) = sumTo hs k + (nth dRH hs k).n := rfl
  omega

def greatB (n kn : Nat) (hs : List RH) : Bool := decide (200 < n) || (decide (200 < kn) || decide (400 < sumTo hs kn))

theorem great_no {n kn : Nat} {hs : List RH} (h : greatB n kn hs = false) : n ≤ 200 ∧ kn ≤ 200 ∧ sumTo hs kn ≤ 400 := by
  simp only [greatB, Bool.or_eq_false_iff, decide_eq_false_iff_not] at h
  omega

end

end Go.Proofs.YtcekcihijdipoaaGreat
