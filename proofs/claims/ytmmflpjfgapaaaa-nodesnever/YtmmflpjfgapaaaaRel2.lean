/- As Rel, for a region whose last operations, any number of them, come one behind the other, each behind all ahead of it. -/
import Derived.Test.YtmmflpjfgapaaaaRel
namespace Go.Proofs.Ytmmflpjfgapaaaa
open Go.RowKit

section
variable {P : Program} {md : Region.Mode} {ops : Array Oper} {Q : Exit → Act → World → Prop}

/-- what is asked of the region: no guards; all edges go back; slots are written once; a relation looks at no slot that is written later; each of the last operations waits for all ahead of it -/
def relB2 (md : Region.Mode) (ops : Array Oper) (n : Nat) (S : Nat → List Nat) (m : Nat) : Bool :=
  (List.range ops.size).all fun i => match ops[i]? with
    | none => true
    | some o => o.guard.isNone && o.after.all (fun e => !Region.binds md e || decide (e.on < i)) && (match o.dst with | some d => decide (d < m) | none => true) &&
      (if i < n then (List.range ops.size).all fun j => i == j || (match (ops[j]?).bind (·.dst) with | some d => !((S i).contains d) || deepB md ops ops.size 8 i j | none => true)
       else (List.range i).all fun j => deepB md ops ops.size 8 i j)

structure RelFacts2 (md : Region.Mode) (ops : Array Oper) (n : Nat) (S : Nat → List Nat) (m : Nat) : Prop where
  guard : ∀ (i : Nat) (o : Oper), ops[i]? = some o → o.guard = none
  back : ∀ (i : Nat) (o : Oper), ops[i]? = some o → ∀ e ∈ o.after, Region.binds md e = true → e.on < i
  slot : ∀ (i : Nat) (o : Oper), ops[i]? = some o → ∀ d, o.dst = some d → d < m
  late : ∀ (i j : Nat) (o : Oper) (d : Nat), i < n → i < ops.size → ops[j]? = some o → o.dst = some d → d ∈ S i → i ≠ j → deepB md ops ops.size 8 i j = true
  last : ∀ (i j : Nat), n ≤ i → i < ops.size → j < i → deepB md ops ops.size 8 i j = true

theorem relB_facts2 {n m : Nat} {S : Nat → List Nat} (h : relB2 md ops n S m = true) : RelFacts2 md ops n S m := by
  have key : ∀ (i : Nat) (o : Oper), ops[i]? = some o → (((o.guard.isNone = true ∧ o.after.all (fun e => !Region.binds md e || decide (e.on < i)) = true) ∧ (match o.dst with | some d => decide (d < m) | none => true) = true) ∧
      (if i < n then (List.range ops.size).all fun j => i == j || (match (ops[j]?).bind (·.dst) with | some d => !((S i).contains d) || deepB md ops ops.size 8 i j | none => true)
       else (List.range i).all fun j => deepB md ops ops.size 8 i j) = true) := by
    intro i o ho
    have hi : i < ops.size := (Array.getElem?_eq_some_iff.1 ho).1
    have h1 := List.all_eq_true.1 h i (List.mem_range.2 hi)
    simp only [ho, Bool.and_eq_true] at h1
    exact h1
  refine ⟨fun i o ho => ?_, fun i o ho e he hb => ?_, fun i o ho d hd => ?_, fun i j o d hin hi ho hd hS hij => ?_, fun i j hin hi hj => ?_⟩
  · have := (key i o ho).1.1.1
    simpa using this
  · have := Array.all_eq_true'.1 (key i o ho).1.1.2 e he
    simpa [hb] using this
  · have := (key i o ho).1.2
    rw [hd] at this
    simpa using this
  · have h2 := (key i _ (Array.getElem?_eq_getElem hi)).2
    rw [if_pos hin] at h2
    have hj : j < ops.size := (Array.getElem?_eq_some_iff.1 ho).1
    have h3 := List.all_eq_true.1 h2 j (List.mem_range.2 hj)
    simp only [ho, Option.bind_some, hd, Bool.or_eq_true, beq_iff_eq] at h3
    rcases h3 with h3 | h3 | h3
    · exact absurd h3 hij
    · simp [hS] at h3
    · exact h3
  · have h2 := (key i _ (Array.getElem?_eq_getElem hi)).2
    rw [if_neg (by omega)] at h2
    exact List.all_eq_true.1 h2 j (List.mem_range.2 hj)

variable {n : Nat} {S : Nat → List Nat} {Φ : Nat → (Nat → Value) → World → Prop} {a0 : Act} {w0 : World}

structure RelInv2 (md : Region.Mode) (ops : Array Oper) (n : Nat) (Φ : Nat → (Nat → Value) → World → Prop) (a0 : Act) (w0 : World) (L : Array Bool) (a : Act) (w : World) : Prop where
  size : L.size = ops.size
  tsz : a.tmps.size = a0.tmps.size
  dfs : a.defers = a0.defers
  free : ∀ s, (∀ (j : Nat) (o : Oper), ops[j]? = some o → L.getD j false = true → o.dst ≠ some s) → got a s = got a0 s
  grow : ∃ x, w = plus w0 x
  rel : ∀ i, L.getD i false = true → Φ i (got a) w
  shut : ∀ i k, L.getD i false = true → Region.waitsFor md ops i k = true → L.getD k false = true
  front : ∀ i, n ≤ i → L.getD i false = false

theorem getD_false2 {L : Array Bool} {i : Nat} (h : L.getD i true = false) : L.getD i false = false ∧ i < L.size := by
  rcases Nat.lt_or_ge i L.size with h' | h'
  · simp [h'] at h ⊢
    exact h
  · simp [Array.getElem?_eq_none h'] at h

theorem all_listed2 (hF : RelFacts2 md ops n S a0.tmps.size) {L : Array Bool} (hs : L.size = ops.size) (hr : Region.ready md ops L = []) : ∀ i, i < ops.size → L.getD i false = true := by
  intro i
  induction i using Nat.strongRecOn with
  | _ i ih =>
    intro hi
    cases hL : L.getD i false with
    | true => rfl
    | false =>
      exfalso
      have ho : ops[i]? = some ops[i] := Array.getElem?_eq_getElem hi
      have hmem : i ∈ Region.ready md ops L := mem_ready.2 ⟨by simp [hs, hi] at hL ⊢; exact hL, _, ho, fun e he hb => by
        have hlt := hF.back i _ ho e he hb
        exact ih e.on hlt (by omega)⟩
      rw [hr] at hmem
      cases hmem

theorem waits_ready2 {L : Array Bool} {i : Nat} (hi : i ∈ Region.ready md ops L) {k : Nat} (hk : Region.waitsFor md ops i k = true) : L.getD k false = true := by
  obtain ⟨_, o, ho, hall⟩ := mem_ready.1 hi
  obtain ⟨oj, ho2, e, he, hb, hon⟩ := Region.waitsFor_spec hk
  rw [ho] at ho2
  cases ho2
  exact hon ▸ hall e he hb

theorem rel_step2 (hF : RelFacts2 md ops n S a0.tmps.size) (hmono : ∀ i t t' w x, Φ i t w → (∀ s ∈ S i, t' s = t s) → Φ i t' (plus w x)) {L : Array Bool} {a a' : Act} {w w' : World} {i : Nat} {o : Oper} {v : Value}
    (h : RelInv2 md ops n Φ a0 w0 L a w) (hi : i ∈ Region.ready md ops L) (hin : i < n) (ho : ops[i]? = some o) (ha : a' = a.put o.dst v) (hw : ∃ x, w' = plus w x) (hΦ : Φ i (upd (got a) o.dst v) w') :
    RelInv2 md ops n Φ a0 w0 (L.setIfInBounds i true) a' w' := by
  obtain ⟨hiL, hiS⟩ := getD_false2 (mem_ready.1 hi).1
  have hgp : got a' = upd (got a) o.dst v := by
    rw [ha]
    exact got_put fun s hs => by rw [h.tsz]; exact hF.slot i o ho s hs
  have hS : Shut md ops ops.size L := fun j k _ hj hk => h.shut j k hj hk
  have hset : ∀ j, (L.setIfInBounds i true).getD j false = true → j = i ∨ L.getD j false = true := by
    intro j hj
    by_cases e : i = j
    · exact .inl e.symm
    · exact .inr (getD_unset L i j e hj)
  have hdeep : ∀ j, deepB md ops ops.size 8 j i = true → L.getD j false = true → False := by
    intro j hd hj
    have := deep_listed hS 8 j i (fun k hk => h.shut j k hj hk) hd
    rw [hiL] at this
    cases this
  obtain ⟨x, rfl⟩ := hw
  refine ⟨by rw [Array.size_setIfInBounds]; exact h.size, ?_, ?_, ?_, ex_plus h.grow, ?_, ?_, ?_⟩
  · rw [ha, ← h.tsz]
    cases o.dst <;> simp [Act.put]
  · rw [ha, ← h.dfs]
    cases o.dst <;> simp [Act.put]
  · intro s hs
    have h1 : o.dst ≠ some s := hs i o ho (by simp [hiS])
    rw [hgp]
    unfold upd
    rw [if_neg h1]
    exact h.free s fun j oj hj hL => hs j oj hj (getD_set L i j hL)
  · intro j hj
    rcases hset j hj with rfl | hj'
    · rw [hgp]; exact hΦ
    · by_cases e : j = i
      · subst e; rw [hgp]; exact hΦ
      refine hmono j (got a) (got a') w x (h.rel j hj') fun s hs => ?_
      rw [hgp]
      unfold upd
      by_cases hd : o.dst = some s
      · exfalso
        have hjn : j < n := by
          rcases Nat.lt_or_ge j n with h' | h'
          · exact h'
          · rw [h.front j h'] at hj'; cases hj'
        have hjs : j < ops.size := by
          rw [← h.size]
          rcases Nat.lt_or_ge j L.size with h' | h'
          · exact h'
          · simp [Array.getElem?_eq_none h'] at hj'
        exact hdeep j (hF.late j i o s hjn hjs ho hd hs e) hj'
      · rw [if_neg hd]
  · intro j k hj hk
    rcases hset j hj with rfl | hj'
    · exact getD_set L _ k (waits_ready2 hi hk)
    · exact getD_set L i k (h.shut j k hj' hk)
  · intro j hj
    have e : i ≠ j := by omega
    have h1 := h.front j hj
    cases h2 : (L.setIfInBounds i true).getD j false with
    | false => rfl
    | true => rw [getD_unset L i j e h2] at h1; cases h1

/-- the steps that are to be shown, one an operation -/
def Steps2 (P : Program) (md : Region.Mode) (ops : Array Oper) (n : Nat) (Φ : Nat → (Nat → Value) → World → Prop) (a0 : Act) (w0 : World) (Q : Exit → Act → World → Prop) : List Oper → Nat → Prop
  | [], _ => True
  | o :: r, i => (∀ a w, (∃ x, w = plus w0 x) → (∀ s, (ops.any fun o => o.dst == some s) = false → got a s = got a0 s) → (∀ j, deepB md ops ops.size 8 i j = true → Φ j (got a) w) →
      o.wp P a w (fun a' w' => ∃ v, a' = a.put o.dst v ∧ (∃ x, w' = plus w x) ∧ Φ i (upd (got a) o.dst v) w') Q) ∧ Steps2 P md ops n Φ a0 w0 Q r (i + 1)

theorem steps_at2 : ∀ (l : List Oper) (k : Nat), Steps2 P md ops n Φ a0 w0 Q l k → ∀ (i : Nat) (o : Oper), l[i]? = some o → ∀ a w, (∃ x, w = plus w0 x) → (∀ s, (ops.any fun o => o.dst == some s) = false → got a s = got a0 s) → (∀ j, deepB md ops ops.size 8 (k + i) j = true → Φ j (got a) w) →
      o.wp P a w (fun a' w' => ∃ v, a' = a.put o.dst v ∧ (∃ x, w' = plus w x) ∧ Φ (k + i) (upd (got a) o.dst v) w') Q
  | [], _, _, i, o, ho => by simp at ho
  | o :: r, k, h, 0, o', ho => by
    simp only [List.getElem?_cons_zero, Option.some.injEq] at ho
    subst ho
    exact h.1
  | o :: r, k, h, i + 1, o', ho => by
    have := steps_at2 r (k + 1) h.2 i o' (by simpa using ho)
    rwa [show k + 1 + i = k + (i + 1) by omega] at this

theorem free_of2 {a : Act} {L : Array Bool} {w : World} (h : RelInv2 md ops n Φ a0 w0 L a w) : ∀ s, (ops.any fun o => o.dst == some s) = false → got a s = got a0 s := by
  intro s hs
  refine h.free s fun j o ho _ hd => ?_
  have : (ops.any fun o => o.dst == some s) = true := by
    rw [Array.any_eq_true']
    exact ⟨o, Array.mem_of_getElem? ho, by simp [hd]⟩
  rw [hs] at this
  cases this

theorem region_rels {id : Nat} {l : List Oper} (n : Nat) (S : Nat → List Nat) (Φ : Nat → (Nat → Value) → World → Prop) {a : Act} {w : World} (hm : P.follows .mixedOrders = true) (hB : relB2 .any l.toArray n S a.tmps.size = true) (hn : n ≤ l.length)
    (hmono : ∀ i t t' w x, Φ i t w → (∀ s ∈ S i, t' s = t s) → Φ i t' (plus w x))
    (hst : Steps2 P .any l.toArray n Φ a w Q (l.take n) 0)
    (hend : ∀ t w', (∃ x, w' = plus w x) → (∀ j, j < n → Φ j t w') → wpList P l.toArray Q (l.drop n) (putAll t (l.take n) a) w') : (Code.region id l.toArray true).wp P Q a w := by
  have hF := relB_facts2 hB
  have hsize : l.toArray.size = l.length := by simp
  have hrest : ∀ t w', (∃ x, w' = plus w x) → (∀ j, j < n → Φ j t w') → wpOps P l.toArray Q (List.range' n (l.length - n)) (putAll t (l.take n) a) w' := by
    intro t w' h1 h2
    have h := hend t w' h1 h2
    have e := wpOps_eq_wpList (P := P) (Q := Q) (ops := l.toArray) (l.drop n) n (fun j => by simp)
    rw [List.length_drop] at e
    rw [e]
    exact h
  refine wp_region_any hm ?_
  refine wpAny_inv (I := fun L a' w' => (L.size = l.length ∧ RelInv2 .any l.toArray n Φ a w L a' w') ∨ (L.size = l.length ∧ ∃ i, n ≤ i ∧ i ≤ l.length ∧ (∀ j, L.getD j false = decide (j < i)) ∧ wpOps P l.toArray Q (List.range' i (l.length - i)) a' w')) ?_ ?_ _ _ _ _ ?_ ?_
  · have key : ∀ L a' w' i k, L.size = l.length → n ≤ k → k ≤ l.length → (∀ j, L.getD j false = decide (j < k)) → wpOps P l.toArray Q (List.range' k (l.length - k)) a' w' → i ∈ Region.ready .any l.toArray L →
        wpOp P l.toArray Q i (fun a' w' => ((L.setIfInBounds i true).size = l.length ∧ RelInv2 .any l.toArray n Φ a w (L.setIfInBounds i true) a' w') ∨ ((L.setIfInBounds i true).size = l.length ∧ ∃ k, n ≤ k ∧ k ≤ l.length ∧ (∀ j, (L.setIfInBounds i true).getD j false = decide (j < k)) ∧ wpOps P l.toArray Q (List.range' k (l.length - k)) a' w')) a' w' := by
      intro L a' w' i k hs hnk hkl hL hw hi
      obtain ⟨hiL, o, ho, hall⟩ := mem_ready.1 hi
      obtain ⟨hiL2, hiS⟩ := getD_false2 hiL
      have hik : k ≤ i := by
        rw [hL i] at hiL2
        simpa using hiL2
      obtain rfl : i = k := by
        rcases Nat.eq_or_lt_of_le hik with e | hlt
        · exact e.symm
        · exfalso
          have hd := hF.last i k (by omega) (by simp; omega) hlt
          have hS : Shut .any l.toArray l.toArray.size L := by
            intro p q hp hp2 hq
            rw [hL p] at hp2
            rw [hL q]
            obtain ⟨oj, h1, e, he, hb, hon⟩ := Region.waitsFor_spec hq
            have := hF.back p oj h1 e he hb
            simp at hp2 ⊢
            omega
          have := deep_listed hS 8 i k (fun q hq => waits_ready2 hi hq) hd
          rw [hL k] at this
          simp at this
      have e1 : List.range' i (l.length - i) = i :: List.range' (i + 1) (l.length - (i + 1)) := by
        rw [show l.length - i = (l.length - (i + 1)) + 1 by omega, List.range'_succ]
      rw [e1, wpOps_cons] at hw
      refine wpOp_mono (fun a2 w2 h2 => .inr ⟨by rw [Array.size_setIfInBounds]; exact hs, i + 1, by omega, by omega, fun j => ?_, h2⟩) hw
      by_cases e : i = j
      · subst e
        simp [hiS]
      · have h3 := hL j
        have h4 : (L.setIfInBounds i true).getD j false = L.getD j false := by simp [e]
        rw [h4, h3]
        have : (j < i) ↔ (j < i + 1) := by omega
        simp [this]
    rintro L a' w' i (⟨hs, h⟩ | ⟨hs, k, hnk, hkl, hL, hw⟩) hi
    · by_cases hin : i < n
      · obtain ⟨hiL, o, ho, hall⟩ := mem_ready.1 hi
        have hS : Shut .any l.toArray l.toArray.size L := fun j k _ hj hk => h.shut j k hj hk
        have hdl : ∀ j, deepB .any l.toArray l.toArray.size 8 i j = true → L.getD j false = true := fun j hd => deep_listed hS 8 i j (fun k hk => waits_ready2 hi hk) hd
        unfold wpOp
        simp only [ho]
        have hwt : Region.wanted o (yielded l.toArray a'.tmps) = true := by simp [Region.wanted, hF.guard i o ho]
        rw [if_pos hwt]
        left
        have hol : (l.take n)[i]? = some o := by rw [List.getElem?_take, if_pos hin]; simpa using ho
        have hw := steps_at2 (l.take n) 0 hst i o hol a' w' h.grow (free_of2 h) (fun j hd => h.rel j (hdl j (by rwa [Nat.zero_add] at hd)))
        rw [Nat.zero_add] at hw
        exact Oper.wp_mono (fun a2 w2 ⟨v, e1, e2, e3⟩ => .inl ⟨by rw [Array.size_setIfInBounds]; exact hs, rel_step2 hF hmono h hi hin ho e1 e2 e3⟩) hw
      · obtain ⟨hiL, o, ho, hall⟩ := mem_ready.1 hi
        have hil : i < l.length := by simpa using (Array.getElem?_eq_some_iff.1 ho).1
        have hS : Shut .any l.toArray l.toArray.size L := fun j k _ hj hk => h.shut j k hj hk
        have hall2 : ∀ j, j < i → L.getD j false = true := fun j hj => deep_listed hS 8 i j (fun k hk => waits_ready2 hi hk) (hF.last i j (by omega) (by simp; omega) hj)
        have hin2 : i = n := by
          rcases Nat.lt_or_ge n i with h1 | h1
          · have h2 := hall2 n h1
            rw [h.front n (Nat.le_refl _)] at h2
            cases h2
          · omega
        subst hin2
        have ha : a' = putAll (got a') (l.take i) a := by
          have hp := putAll_size (got a') (l.take i) a
          refine act_ext (h.tsz.trans hp.1.symm) (h.dfs.trans hp.2.symm) fun s hs => ?_
          rw [putAll_got _ _ _ _ (by rw [← h.tsz]; exact hs)]
          cases hany : (l.take i).any fun o => o.dst == some s with
          | true => simp
          | false =>
            simp only [Bool.false_eq_true, if_false]
            refine h.free s fun j oj hj hL hd => ?_
            have hjn : j < i := by
              rcases Nat.lt_or_ge j i with h' | h'
              · exact h'
              · rw [h.front j h'] at hL; cases hL
            have : ((l.take i).any fun o => o.dst == some s) = true := List.any_eq_true.2 ⟨oj, List.mem_of_getElem? (i := j) (by rw [List.getElem?_take, if_pos hjn]; simpa using hj), by simp [hd]⟩
            rw [hany] at this
            cases this
        have hw := hrest (got a') w' h.grow (fun j hj => h.rel j (hall2 j hj))
        rw [← ha] at hw
        refine key L a' w' i i hs (Nat.le_refl _) (by omega) (fun j => ?_) hw hi
        by_cases hj : j < i
        · rw [hall2 j hj, decide_eq_true hj]
        · rw [h.front j (by omega), decide_eq_false hj]
    · exact key L a' w' i k hs hnk hkl hL hw hi
  · rintro L a' w' (⟨hs, h⟩ | ⟨hs, k, hnk, hkl, hL, hw⟩) hr
    · have hall := all_listed2 hF (by rw [hs, hsize]) hr
      have hnl : l.length = n := by
        rcases Nat.lt_or_ge n l.length with h1 | h1
        · have := hall n (by simpa using h1)
          rw [h.front n (Nat.le_refl _)] at this
          cases this
        · omega
      have ha : a' = putAll (got a') (l.take n) a := by
        have hp := putAll_size (got a') (l.take n) a
        refine act_ext (h.tsz.trans hp.1.symm) (h.dfs.trans hp.2.symm) fun s hs => ?_
        rw [putAll_got _ _ _ _ (by rw [← h.tsz]; exact hs)]
        cases hany : (l.take n).any fun o => o.dst == some s with
        | true => simp
        | false =>
          simp only [Bool.false_eq_true, if_false]
          refine h.free s fun j oj hj hL hd => ?_
          have hjn : j < n := by
            rcases Nat.lt_or_ge j n with h' | h'
            · exact h'
            · rw [h.front j h'] at hL; cases hL
          have : ((l.take n).any fun o => o.dst == some s) = true := List.any_eq_true.2 ⟨oj, List.mem_of_getElem? (i := j) (by rw [List.getElem?_take, if_pos hjn]; simpa using hj), by simp [hd]⟩
          rw [hany] at this
          cases this
      have hw := hrest (got a') w' h.grow (fun j hj => h.rel j (hall j (by simp; omega)))
      rw [← ha, hnl, Nat.sub_self] at hw
      exact hw
    · have hall := all_listed2 (n := n) (S := S) (a0 := a) hF (by rw [hs, hsize]) hr
      obtain rfl : k = l.length := by
        rcases Nat.lt_or_ge k l.length with h1 | h1
        · have := hall k (by simpa using h1)
          rw [hL k] at this
          simp at this
        · omega
      rw [Nat.sub_self] at hw
      exact hw
  · unfold unlisted
    exact Nat.le_trans (List.length_filter_le _ _) (by simp)
  · left
    refine ⟨by simp, by simp, rfl, rfl, fun s _ => rfl, ⟨[⟨#[], w.drawn + 1⟩], by simp [plus, blocks, draws]⟩, ?_, ?_, ?_⟩
    · intro i hi
      by_cases hl : i < l.length <;> simp [hl] at hi
    · intro i k hi
      by_cases hl : i < l.length <;> simp [hl] at hi
    · intro i _
      by_cases hl : i < l.length <;> simp [hl]

end
end Go.Proofs.Ytmmflpjfgapaaaa
