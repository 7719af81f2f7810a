/- As Rel, for a region with guards: what a guard looks at is told by the relation of the operation that yields it, so that each operation is carried out. -/
import Derived.Test.YtimmbpcoagjcbaaRel
namespace Go.Proofs.Ytimmbpcoagjcbaa
open Go.RowKit

section
variable {P : Program} {md : Region.Mode} {ops : Array Oper} {Q : Exit → Act → World → Prop}

/-- what is asked of the region: guards that are waited for; all edges go back; slots are written once; a relation looks at no slot that is written later; the last operation waits for all others -/
def relBG (md : Region.Mode) (ops : Array Oper) (n : Nat) (S : Nat → List Nat) (m : Nat) : Bool :=
  (List.range ops.size).all fun i => match ops[i]? with
    | none => true
    | some o => (match o.guard with | some p => decide (p.1 < n) && deepB md ops n 8 i p.1 | none => true) && o.after.all (fun e => !Region.binds md e || decide (e.on < i)) && (match o.dst with | some d => decide (d < m) | none => true) &&
      (if i < n then (List.range ops.size).all fun j => i == j || (match (ops[j]?).bind (·.dst) with | some d => !((S i).contains d) || deepB md ops n 8 i j | none => true)
       else (List.range n).all fun j => deepB md ops n 8 i j)

structure RelFactsG (md : Region.Mode) (ops : Array Oper) (n : Nat) (S : Nat → List Nat) (m : Nat) : Prop where
  guard : ∀ (i : Nat) (o : Oper), ops[i]? = some o → ∀ p, o.guard = some p → p.1 < n ∧ deepB md ops n 8 i p.1 = true
  back : ∀ (i : Nat) (o : Oper), ops[i]? = some o → ∀ e ∈ o.after, Region.binds md e = true → e.on < i
  slot : ∀ (i : Nat) (o : Oper), ops[i]? = some o → ∀ d, o.dst = some d → d < m
  late : ∀ (i j : Nat) (o : Oper) (d : Nat), i < n → i < ops.size → ops[j]? = some o → o.dst = some d → d ∈ S i → i ≠ j → deepB md ops n 8 i j = true
  last : ∀ (i j : Nat), n ≤ i → i < ops.size → j < n → deepB md ops n 8 i j = true

theorem relB_factsG {n m : Nat} {S : Nat → List Nat} (h : relBG md ops n S m = true) : RelFactsG md ops n S m := by
  have key : ∀ (i : Nat) (o : Oper), ops[i]? = some o → ((((match o.guard with | some p => decide (p.1 < n) && deepB md ops n 8 i p.1 | none => true) = true ∧ o.after.all (fun e => !Region.binds md e || decide (e.on < i)) = true) ∧ (match o.dst with | some d => decide (d < m) | none => true) = true) ∧
      (if i < n then (List.range ops.size).all fun j => i == j || (match (ops[j]?).bind (·.dst) with | some d => !((S i).contains d) || deepB md ops n 8 i j | none => true)
       else (List.range n).all fun j => deepB md ops n 8 i j) = true) := by
    intro i o ho
    have hi : i < ops.size := (Array.getElem?_eq_some_iff.1 ho).1
    have h1 := List.all_eq_true.1 h i (List.mem_range.2 hi)
    simp only [ho, Bool.and_eq_true] at h1
    exact h1
  refine ⟨fun i o ho p hp => ?_, fun i o ho e he hb => ?_, fun i o ho d hd => ?_, fun i j o d hin hi ho hd hS hij => ?_, fun i j hin hi hj => ?_⟩
  · have := (key i o ho).1.1.1
    rw [hp] at this
    simpa using this
  · have := Array.all_eq_true'.1 (key i o ho).1.1.2 e he
    simpa [hb] using this
  · have := (key i o ho).1.2
    rw [hd] at this
    simpa using this
  · have h2 := (key i _ (Array.getElem?_eq_getElem hi)).2
    rw [if_pos hin] at h2
    have hj : j < ops.size := (Array.getElem?_eq_some_iff.1 ho).1
    have h3 := List.all_eq_true.1 h2 j (List.mem_range.2 hj)
    simp only [ho, Option.bind_some, hd, Bool.or_eq_true, beq_iff_eq] at h3
    rcases h3 with h3 | h3 | h3
    · exact absurd h3 hij
    · simp [hS] at h3
    · exact h3
  · have h2 := (key i _ (Array.getElem?_eq_getElem hi)).2
    rw [if_neg (by omega)] at h2
    exact List.all_eq_true.1 h2 j (List.mem_range.2 hj)

variable {n : Nat} {S : Nat → List Nat} {Φ : Nat → (Nat → Value) → World → Prop} {a0 : Act} {w0 : World}

structure RelInvG (md : Region.Mode) (ops : Array Oper) (n : Nat) (Φ : Nat → (Nat → Value) → World → Prop) (a0 : Act) (w0 : World) (L : Array Bool) (a : Act) (w : World) : Prop where
  size : L.size = ops.size
  tsz : a.tmps.size = a0.tmps.size
  dfs : a.defers = a0.defers
  free : ∀ s, (∀ (j : Nat) (o : Oper), ops[j]? = some o → L.getD j false = true → o.dst ≠ some s) → got a s = got a0 s
  grow : ∃ x, w = plus w0 x
  rel : ∀ i, L.getD i false = true → Φ i (got a) w
  shut : ∀ i k, L.getD i false = true → Region.waitsFor md ops i k = true → L.getD k false = true
  front : ∀ i, n ≤ i → L.getD i false = false

theorem getD_falseG {L : Array Bool} {i : Nat} (h : L.getD i true = false) : L.getD i false = false ∧ i < L.size := by
  rcases Nat.lt_or_ge i L.size with h' | h'
  · simp [h'] at h ⊢
    exact h
  · simp [Array.getElem?_eq_none h'] at h

theorem all_listedG (hF : RelFactsG md ops n S a0.tmps.size) {L : Array Bool} (hs : L.size = ops.size) (hr : Region.ready md ops L = []) : ∀ i, i < ops.size → L.getD i false = true := by
  intro i
  induction i using Nat.strongRecOn with
  | _ i ih =>
    intro hi
    cases hL : L.getD i false with
    | true => rfl
    | false =>
      exfalso
      have ho : ops[i]? = some ops[i] := Array.getElem?_eq_getElem hi
      have hmem : i ∈ Region.ready md ops L := mem_ready.2 ⟨by simp [hs, hi] at hL ⊢; exact hL, _, ho, fun e he hb => by
        have hlt := hF.back i _ ho e he hb
        exact ih e.on hlt (by omega)⟩
      rw [hr] at hmem
      cases hmem

theorem waits_readyG {L : Array Bool} {i : Nat} (hi : i ∈ Region.ready md ops L) {k : Nat} (hk : Region.waitsFor md ops i k = true) : L.getD k false = true := by
  obtain ⟨_, o, ho, hall⟩ := mem_ready.1 hi
  obtain ⟨oj, ho2, e, he, hb, hon⟩ := Region.waitsFor_spec hk
  rw [ho] at ho2
  cases ho2
  exact hon ▸ hall e he hb

theorem rel_stepG (hF : RelFactsG md ops n S a0.tmps.size) (hmono : ∀ i t t' w x, Φ i t w → (∀ s ∈ S i, t' s = t s) → Φ i t' (plus w x)) {L : Array Bool} {a a' : Act} {w w' : World} {i : Nat} {o : Oper} {v : Value}
    (h : RelInvG md ops n Φ a0 w0 L a w) (hi : i ∈ Region.ready md ops L) (hin : i < n) (ho : ops[i]? = some o) (ha : a' = a.put o.dst v) (hw : ∃ x, w' = plus w x) (hΦ : Φ i (upd (got a) o.dst v) w') :
    RelInvG md ops n Φ a0 w0 (L.setIfInBounds i true) a' w' := by
  obtain ⟨hiL, hiS⟩ := getD_falseG (mem_ready.1 hi).1
  have hgp : got a' = upd (got a) o.dst v := by
    rw [ha]
    exact got_put fun s hs => by rw [h.tsz]; exact hF.slot i o ho s hs
  have hS : Shut md ops n L := fun j k _ hj hk => h.shut j k hj hk
  have hset : ∀ j, (L.setIfInBounds i true).getD j false = true → j = i ∨ L.getD j false = true := by
    intro j hj
    by_cases e : i = j
    · exact .inl e.symm
    · exact .inr (getD_unset L i j e hj)
  have hdeep : ∀ j, deepB md ops n 8 j i = true → L.getD j false = true → False := by
    intro j hd hj
    have := deep_listed hS 8 j i (fun k hk => h.shut j k hj hk) hd
    rw [hiL] at this
    cases this
  obtain ⟨x, rfl⟩ := hw
  refine ⟨by rw [Array.size_setIfInBounds]; exact h.size, ?_, ?_, ?_, ex_plus h.grow, ?_, ?_, ?_⟩
  · rw [ha, ← h.tsz]
    cases o.dst <;> simp [Act.put]
  · rw [ha, ← h.dfs]
    cases o.dst <;> simp [Act.put]
  · intro s hs
    have h1 : o.dst ≠ some s := hs i o ho (by simp [hiS])
    rw [hgp]
    unfold upd
    rw [if_neg h1]
    exact h.free s fun j oj hj hL => hs j oj hj (getD_set L i j hL)
  · intro j hj
    rcases hset j hj with rfl | hj'
    · rw [hgp]; exact hΦ
    · by_cases e : j = i
      · subst e; rw [hgp]; exact hΦ
      refine hmono j (got a) (got a') w x (h.rel j hj') fun s hs => ?_
      rw [hgp]
      unfold upd
      by_cases hd : o.dst = some s
      · exfalso
        have hjn : j < n := by
          rcases Nat.lt_or_ge j n with h' | h'
          · exact h'
          · rw [h.front j h'] at hj'; cases hj'
        have hjs : j < ops.size := by
          rw [← h.size]
          rcases Nat.lt_or_ge j L.size with h' | h'
          · exact h'
          · simp [Array.getElem?_eq_none h'] at hj'
        exact hdeep j (hF.late j i o s hjn hjs ho hd hs e) hj'
      · rw [if_neg hd]
  · intro j k hj hk
    rcases hset j hj with rfl | hj'
    · exact getD_set L _ k (waits_readyG hi hk)
    · exact getD_set L i k (h.shut j k hj' hk)
  · intro j hj
    have e : i ≠ j := by omega
    have h1 := h.front j hj
    cases h2 : (L.setIfInBounds i true).getD j false with
    | false => rfl
    | true => rw [getD_unset L i j e h2] at h1; cases h1

/-- the guards: (operation, slot, Boolean) -/
def gdB (l : List Oper) (gs : List (Nat × Nat × Bool)) : Bool := l.all fun o => match o.guard with | none => true | some (g, b) => gs.any fun q => decide (q.1 = g) && (decide (q.2.2 = b) && decide ((l[g]?).bind (·.dst) = some q.2.1))
theorem gdB_at {l : List Oper} {gs : List (Nat × Nat × Bool)} (h : gdB l gs = true) {o : Oper} (ho : o ∈ l) {g : Nat} {b : Bool} (hg : o.guard = some (g, b)) : ∃ q ∈ gs, q.1 = g ∧ q.2.2 = b ∧ (l[g]?).bind (·.dst) = some q.2.1 := by
  have h1 := List.all_eq_true.1 h o ho
  rw [hg] at h1
  obtain ⟨q, hq, h2⟩ := List.any_eq_true.1 h1
  simp only [Bool.and_eq_true, decide_eq_true_eq] at h2
  exact ⟨q, hq, h2.1, h2.2.1, h2.2.2⟩

theorem free_ofG {a : Act} {L : Array Bool} {w : World} (h : RelInvG md ops n Φ a0 w0 L a w) : ∀ s, (ops.any fun o => o.dst == some s) = false → got a s = got a0 s := by
  intro s hs
  refine h.free s fun j o ho _ hd => ?_
  have : (ops.any fun o => o.dst == some s) = true := by
    rw [Array.any_eq_true']
    exact ⟨o, Array.mem_of_getElem? ho, by simp [hd]⟩
  rw [hs] at this
  cases this

theorem region_relGu {id : Nat} {l : List Oper} (n : Nat) (S : Nat → List Nat) (Φ : Nat → (Nat → Value) → World → Prop) {a : Act} {w : World} (hm : P.follows .mixedOrders = true) (hB : relBG .any l.toArray n S a.tmps.size = true) (hn : l.length = n + 1)
    (gs : List (Nat × Nat × Bool)) (hgs : gdB l gs = true) (hgΦ : ∀ q ∈ gs, ∀ t w', Φ q.1 t w' → t q.2.1 = .bool q.2.2)
    (hmono : ∀ i t t' w x, Φ i t w → (∀ s ∈ S i, t' s = t s) → Φ i t' (plus w x))
    (hst : Steps P .any l.toArray n Φ a w Q (l.take n) 0)
    (hend : ∀ t w', (∃ x, w' = plus w x) → (∀ j, j < n → Φ j t w') → ∀ o, l[n]? = some o → o.wp P (putAll t (l.take n) a) w' (fun a' w'' => Q .normal a' w'') Q) : (Code.region id l.toArray true).wp P Q a w := by
  have hF := relB_factsG hB
  refine wp_region_any hm ?_
  refine wpAny_inv (I := fun L a' w' => RelInvG .any l.toArray n Φ a w L a' w' ∨ (Region.ready .any l.toArray L = [] ∧ Q .normal a' w')) ?_ ?_ _ _ _ _ ?_ ?_
  · rintro L a' w' i (h | ⟨h, _⟩) hi
    · obtain ⟨hiL, o, ho, hall⟩ := mem_ready.1 hi
      obtain ⟨hiL2, hiS⟩ := getD_falseG hiL
      have hsz : i < n + 1 := by rw [← hn]; simpa using (Array.getElem?_eq_some_iff.1 ho).1
      have hS : Shut .any l.toArray n L := fun j k _ hj hk => h.shut j k hj hk
      have hdl : ∀ j, deepB .any l.toArray n 8 i j = true → L.getD j false = true := fun j hd => deep_listed hS 8 i j (fun k hk => waits_readyG hi hk) hd
      unfold wpOp
      simp only [ho]
      have hwt : Region.wanted o (yielded l.toArray a'.tmps) = true := by
        unfold Region.wanted
        cases hgu : o.guard with
        | none => rfl
        | some p =>
          obtain ⟨g, b⟩ := p
          obtain ⟨hg1, hg2⟩ := hF.guard i o ho _ hgu
          obtain ⟨q, hq, e1, e2, e3⟩ := gdB_at hgs (List.mem_of_getElem? (i := i) (by simpa using ho)) hgu
          have hΦg := hgΦ q hq (got a') w' (by rw [e1]; exact h.rel g (hdl g hg2))
          rw [e2] at hΦg
          obtain ⟨og, hog, hod⟩ := Option.bind_eq_some_iff.1 e3
          have hsl := hF.slot g og (by simpa using hog) q.2.1 hod
          rw [← h.tsz] at hsl
          have e4 : a'.tmps[q.2.1]? = some (.bool b) := by
            rw [Array.getElem?_eq_getElem hsl]
            rw [← hΦg]
            simp [got, hsl]
          have e5 : yielded l.toArray a'.tmps g = some b := by
            unfold yielded
            rw [show ((l.toArray[g]?).bind (·.dst)).bind (a'.tmps[·]?) = some (.bool b) by rw [List.getElem?_toArray, e3]; exact e4]
          simp [e5]
      rw [if_pos hwt]
      left
      by_cases hin : i < n
      · have hol : (l.take n)[i]? = some o := by rw [List.getElem?_take, if_pos hin]; simpa using ho
        have hw := steps_at (l.take n) 0 hst i o hol a' w' h.grow (free_ofG h) (fun j hd => h.rel j (hdl j (by rwa [Nat.zero_add] at hd)))
        rw [Nat.zero_add] at hw
        exact Oper.wp_mono (fun a2 w2 ⟨v, e1, e2, e3⟩ => .inl (rel_stepG hF hmono h hi hin ho e1 e2 e3)) hw
      · obtain rfl : i = n := by omega
        have hall2 : ∀ j, j < i → L.getD j false = true := fun j hj => hdl j (hF.last i j (Nat.le_refl _) (by simp; omega) hj)
        have ha : a' = putAll (got a') (l.take i) a := by
          have hp := putAll_size (got a') (l.take i) a
          refine act_ext (h.tsz.trans hp.1.symm) (h.dfs.trans hp.2.symm) fun s hs => ?_
          rw [putAll_got _ _ _ _ (by rw [← h.tsz]; exact hs)]
          cases hany : (l.take i).any fun o => o.dst == some s with
          | true => simp
          | false =>
            simp only [Bool.false_eq_true, if_false]
            refine h.free s fun j oj hj hL hd => ?_
            have hjn : j < i := by
              rcases Nat.lt_or_ge j i with h' | h'
              · exact h'
              · rw [h.front j h'] at hL; cases hL
            have : ((l.take i).any fun o => o.dst == some s) = true := List.any_eq_true.2 ⟨oj, List.mem_of_getElem? (i := j) (by rw [List.getElem?_take, if_pos hjn]; simpa using hj), by simp [hd]⟩
            rw [hany] at this
            cases this
        have hE := hend (got a') w' h.grow (fun j hj => h.rel j (hall2 j hj)) o (by simpa using ho)
        rw [← ha] at hE
        refine Oper.wp_mono (fun a2 w2 hq => .inr ⟨?_, hq⟩) hE
        apply List.eq_nil_iff_forall_not_mem.2
        intro j hj
        obtain ⟨hj1, oj, hoj, _⟩ := mem_ready.1 hj
        have hj2 := getD_falseG hj1
        have hjs : j < i + 1 := by rw [← hn]; simpa using (Array.getElem?_eq_some_iff.1 hoj).1
        by_cases e : j = i
        · subst e
          simp [hiS] at hj1
        · have := getD_set L i j (hall2 j (by omega))
          rw [hj2.1] at this
          cases this
    · rw [h] at hi
      cases hi
  · rintro L a' w' (h | ⟨_, h⟩) hr
    · have := all_listedG hF h.size hr n (by simp; omega)
      rw [h.front n (Nat.le_refl _)] at this
      cases this
    · exact h
  · unfold unlisted
    exact Nat.le_trans (List.length_filter_le _ _) (by simp)
  · left
    refine ⟨by simp, rfl, rfl, fun s _ => rfl, ⟨[⟨#[], w.drawn + 1⟩], by simp [plus, blocks, draws]⟩, ?_, ?_, ?_⟩
    · intro i hi
      by_cases hl : i < l.length <;> simp [hl] at hi
    · intro i k hi
      by_cases hl : i < l.length <;> simp [hl] at hi
    · intro i _
      by_cases hl : i < l.length <;> simp [hl]

end
end Go.Proofs.Ytimmbpcoagjcbaa
