/- A region that draws its order, whose operations read, make memory, and call what only makes new memory: what each yields is told by a relation that lasts while memory grows. Whatever the order, at the end all the relations hold; then, if there is one, the last operation, which waits for all others, is carried out. -/
import Derived.Test.YtimmbpcoagjcbaaTail
namespace Go.Proofs.Ytimmbpcoagjcbaa
open Go.RowKit

section
variable {P : Program} {md : Region.Mode} {ops : Array Oper} {Q : Exit → Act → World → Prop}

/-- those that have not come up yet -/
def unlisted (L : Array Bool) : List Nat := (List.range L.size).filter fun i => !(L.getD i true)

theorem unlisted_lt {L : Array Bool} {i : Nat} (h : L.getD i true = false) : (unlisted (L.setIfInBounds i true)).length < (unlisted L).length := by
  have hi : i < L.size := by
    rcases Nat.lt_or_ge i L.size with h' | h'
    · exact h'
    · simp [Array.getElem?_eq_none h'] at h
  have e : unlisted (L.setIfInBounds i true) = (unlisted L).filter (fun j => decide (j ≠ i)) := by
    unfold unlisted
    rw [List.filter_filter, Array.size_setIfInBounds]
    apply List.filter_congr
    intro j _
    by_cases hj : i = j
    · subst hj
      simp [hi]
    · have hj' : ¬ j = i := fun e => hj e.symm
      simp [hj, hj']
  rw [e, List.length_filter_lt_length_iff_exists]
  refine ⟨i, ?_, by simp⟩
  unfold unlisted
  rw [List.mem_filter]
  exact ⟨List.mem_range.2 hi, by rw [h]; rfl⟩

theorem wpAny_inv {I : Array Bool → Act → World → Prop} (hstep : ∀ L a w i, I L a w → i ∈ Region.ready md ops L → wpOp P ops Q i (fun a' w' => I (L.setIfInBounds i true) a' w') a w)
    (hend : ∀ L a w, I L a w → Region.ready md ops L = [] → Q .normal a w) :
    ∀ (fuel : Nat) (L : Array Bool) (a : Act) (w : World), (unlisted L).length ≤ fuel → I L a w → wpAny P md ops Q fuel L a w := by
  intro fuel
  induction fuel with
  | zero =>
    intro L a w hf h
    have hr : Region.ready md ops L = [] := by
      apply List.eq_nil_iff_forall_not_mem.2
      intro j hj
      have hj' := (mem_ready.1 hj).1
      have hlt := unlisted_lt hj'
      omega
    exact ⟨hr, hend _ _ _ h hr⟩
  | succ fuel ih =>
    intro L a w hf h
    refine ⟨fun h0 => hend _ _ _ h h0, fun i hi => wpOp_mono (fun a' w' h' => ih _ a' w' ?_ h') (hstep _ _ _ _ h hi)⟩
    have := unlisted_lt (mem_ready.1 hi).1
    omega

def got (a : Act) (s : Nat) : Value := a.tmps.getD s undef
def upd (t : Nat → Value) (d : Option Tmp) (v : Value) (s : Nat) : Value := if d = some s then v else t s
theorem got_put {a : Act} {d : Option Tmp} {v : Value} (h : ∀ s, d = some s → s < a.tmps.size) : got (a.put d v) = upd (got a) d v := by
  funext s
  unfold got upd Act.put
  cases d with
  | none => simp
  | some d0 =>
    have := h d0 rfl
    by_cases e : d0 = s
    · subst e
      simp [this]
    · simp [e]

/-- the frame at the end: each slot has what it has been given -/
def putAll (t : Nat → Value) : List Oper → Act → Act
  | [], a => a
  | o :: r, a => putAll t r (match o.dst with | some d => a.put (some d) (t d) | none => a)

theorem putAll_size (t : Nat → Value) : ∀ (l : List Oper) (a : Act), (putAll t l a).tmps.size = a.tmps.size ∧ (putAll t l a).defers = a.defers
  | [], a => ⟨rfl, rfl⟩
  | o :: r, a => by
    unfold putAll
    have h := putAll_size t r (match o.dst with | some d => a.put (some d) (t d) | none => a)
    rw [h.1, h.2]
    cases o.dst <;> simp [Act.put]

theorem putAll_got (t : Nat → Value) (s : Nat) : ∀ (l : List Oper) (a : Act), s < a.tmps.size → got (putAll t l a) s = if (l.any fun o => o.dst == some s) then t s else got a s
  | [], a, _ => by simp [putAll]
  | o :: r, a, hs => by
    unfold putAll
    rw [putAll_got t s r _ (by cases o.dst <;> simpa [Act.put] using hs)]
    cases hd : o.dst with
    | none => simp [hd]
    | some d =>
      by_cases e : d = s
      · subst e
        simp [hd, got, Act.put, hs]
      · simp [hd, e, got, Act.put]

theorem act_ext {a b : Act} (hs : a.tmps.size = b.tmps.size) (hd : a.defers = b.defers) (h : ∀ s, s < a.tmps.size → got a s = got b s) : a = b := by
  obtain ⟨at', ad⟩ := a
  obtain ⟨bt, bd⟩ := b
  simp only at hs hd
  subst hd
  congr 1
  apply Array.ext hs
  intro i h1 h2
  have := h i h1
  simpa [got, h1, h2] using this

/-- what is asked of the region: no guards; all edges go back; slots are written once; a relation looks at no slot that is written later; the last operation waits for all others -/
def relB (md : Region.Mode) (ops : Array Oper) (n : Nat) (S : Nat → List Nat) (m : Nat) : Bool :=
  (List.range ops.size).all fun i => match ops[i]? with
    | none => true
    | some o => o.guard.isNone && o.after.all (fun e => !Region.binds md e || decide (e.on < i)) && (match o.dst with | some d => decide (d < m) | none => true) &&
      (if i < n then (List.range ops.size).all fun j => i == j || (match (ops[j]?).bind (·.dst) with | some d => !((S i).contains d) || deepB md ops n 8 i j | none => true)
       else (List.range n).all fun j => deepB md ops n 8 i j)

structure RelFacts (md : Region.Mode) (ops : Array Oper) (n : Nat) (S : Nat → List Nat) (m : Nat) : Prop where
  guard : ∀ (i : Nat) (o : Oper), ops[i]? = some o → o.guard = none
  back : ∀ (i : Nat) (o : Oper), ops[i]? = some o → ∀ e ∈ o.after, Region.binds md e = true → e.on < i
  slot : ∀ (i : Nat) (o : Oper), ops[i]? = some o → ∀ d, o.dst = some d → d < m
  late : ∀ (i j : Nat) (o : Oper) (d : Nat), i < n → i < ops.size → ops[j]? = some o → o.dst = some d → d ∈ S i → i ≠ j → deepB md ops n 8 i j = true
  last : ∀ (i j : Nat), n ≤ i → i < ops.size → j < n → deepB md ops n 8 i j = true

theorem relB_facts {n m : Nat} {S : Nat → List Nat} (h : relB md ops n S m = true) : RelFacts md ops n S m := by
  have key : ∀ (i : Nat) (o : Oper), ops[i]? = some o → (((o.guard.isNone = true ∧ o.after.all (fun e => !Region.binds md e || decide (e.on < i)) = true) ∧ (match o.dst with | some d => decide (d < m) | none => true) = true) ∧
      (if i < n then (List.range ops.size).all fun j => i == j || (match (ops[j]?).bind (·.dst) with | some d => !((S i).contains d) || deepB md ops n 8 i j | none => true)
       else (List.range n).all fun j => deepB md ops n 8 i j) = true) := by
    intro i o ho
    have hi : i < ops.size := (Array.getElem?_eq_some_iff.1 ho).1
    have h1 := List.all_eq_true.1 h i (List.mem_range.2 hi)
    simp only [ho, Bool.and_eq_true] at h1
    exact h1
  refine ⟨fun i o ho => ?_, fun i o ho e he hb => ?_, fun i o ho d hd => ?_, fun i j o d hin hi ho hd hS hij => ?_, fun i j hin hi hj => ?_⟩
  · have := (key i o ho).1.1.1
    simpa using this
  · have := Array.all_eq_true'.1 (key i o ho).1.1.2 e he
    simpa [hb] using this
  · have := (key i o ho).1.2
    rw [hd] at this
    simpa using this
  · have h2 := (key i _ (Array.getElem?_eq_getElem hi)).2
    rw [if_pos hin] at h2
    have hj : j < ops.size := (Array.getElem?_eq_some_iff.1 ho).1
    have h3 := List.all_eq_true.1 h2 j (List.mem_range.2 hj)
    simp only [ho, Option.bind_some, hd, Bool.or_eq_true, beq_iff_eq] at h3
    rcases h3 with h3 | h3 | h3
    · exact absurd h3 hij
    · simp [hS] at h3
    · exact h3
  · have h2 := (key i _ (Array.getElem?_eq_getElem hi)).2
    rw [if_neg (by omega)] at h2
    exact List.all_eq_true.1 h2 j (List.mem_range.2 hj)

variable {n : Nat} {S : Nat → List Nat} {Φ : Nat → (Nat → Value) → World → Prop} {a0 : Act} {w0 : World}

structure RelInv (md : Region.Mode) (ops : Array Oper) (n : Nat) (Φ : Nat → (Nat → Value) → World → Prop) (a0 : Act) (w0 : World) (L : Array Bool) (a : Act) (w : World) : Prop where
  size : L.size = ops.size
  tsz : a.tmps.size = a0.tmps.size
  dfs : a.defers = a0.defers
  free : ∀ s, (∀ (j : Nat) (o : Oper), ops[j]? = some o → L.getD j false = true → o.dst ≠ some s) → got a s = got a0 s
  grow : ∃ x, w = plus w0 x
  rel : ∀ i, L.getD i false = true → Φ i (got a) w
  shut : ∀ i k, L.getD i false = true → Region.waitsFor md ops i k = true → L.getD k false = true
  front : ∀ i, n ≤ i → L.getD i false = false

theorem getD_false {L : Array Bool} {i : Nat} (h : L.getD i true = false) : L.getD i false = false ∧ i < L.size := by
  rcases Nat.lt_or_ge i L.size with h' | h'
  · simp [h'] at h ⊢
    exact h
  · simp [Array.getElem?_eq_none h'] at h

theorem all_listed (hF : RelFacts md ops n S a0.tmps.size) {L : Array Bool} (hs : L.size = ops.size) (hr : Region.ready md ops L = []) : ∀ i, i < ops.size → L.getD i false = true := by
  intro i
  induction i using Nat.strongRecOn with
  | _ i ih =>
    intro hi
    cases hL : L.getD i false with
    | true => rfl
    | false =>
      exfalso
      have ho : ops[i]? = some ops[i] := Array.getElem?_eq_getElem hi
      have hmem : i ∈ Region.ready md ops L := mem_ready.2 ⟨by simp [hs, hi] at hL ⊢; exact hL, _, ho, fun e he hb => by
        have hlt := hF.back i _ ho e he hb
        exact ih e.on hlt (by omega)⟩
      rw [hr] at hmem
      cases hmem

theorem waits_ready {L : Array Bool} {i : Nat} (hi : i ∈ Region.ready md ops L) {k : Nat} (hk : Region.waitsFor md ops i k = true) : L.getD k false = true := by
  obtain ⟨_, o, ho, hall⟩ := mem_ready.1 hi
  obtain ⟨oj, ho2, e, he, hb, hon⟩ := Region.waitsFor_spec hk
  rw [ho] at ho2
  cases ho2
  exact hon ▸ hall e he hb

theorem rel_step (hF : RelFacts md ops n S a0.tmps.size) (hmono : ∀ i t t' w x, Φ i t w → (∀ s ∈ S i, t' s = t s) → Φ i t' (plus w x)) {L : Array Bool} {a a' : Act} {w w' : World} {i : Nat} {o : Oper} {v : Value}
    (h : RelInv md ops n Φ a0 w0 L a w) (hi : i ∈ Region.ready md ops L) (hin : i < n) (ho : ops[i]? = some o) (ha : a' = a.put o.dst v) (hw : ∃ x, w' = plus w x) (hΦ : Φ i (upd (got a) o.dst v) w') :
    RelInv md ops n Φ a0 w0 (L.setIfInBounds i true) a' w' := by
  obtain ⟨hiL, hiS⟩ := getD_false (mem_ready.1 hi).1
  have hgp : got a' = upd (got a) o.dst v := by
    rw [ha]
    exact got_put fun s hs => by rw [h.tsz]; exact hF.slot i o ho s hs
  have hS : Shut md ops n L := fun j k _ hj hk => h.shut j k hj hk
  have hset : ∀ j, (L.setIfInBounds i true).getD j false = true → j = i ∨ L.getD j false = true := by
    intro j hj
    by_cases e : i = j
    · exact .inl e.symm
    · exact .inr (getD_unset L i j e hj)
  have hdeep : ∀ j, deepB md ops n 8 j i = true → L.getD j false = true → False := by
    intro j hd hj
    have := deep_listed hS 8 j i (fun k hk => h.shut j k hj hk) hd
    rw [hiL] at this
    cases this
  obtain ⟨x, rfl⟩ := hw
  refine ⟨by rw [Array.size_setIfInBounds]; exact h.size, ?_, ?_, ?_, ex_plus h.grow, ?_, ?_, ?_⟩
  · rw [ha, ← h.tsz]
    cases o.dst <;> simp [Act.put]
  · rw [ha, ← h.dfs]
    cases o.dst <;> simp [Act.put]
  · intro s hs
    have h1 : o.dst ≠ some s := hs i o ho (by simp [hiS])
    rw [hgp]
    unfold upd
    rw [if_neg h1]
    exact h.free s fun j oj hj hL => hs j oj hj (getD_set L i j hL)
  · intro j hj
    rcases hset j hj with rfl | hj'
    · rw [hgp]; exact hΦ
    · by_cases e : j = i
      · subst e; rw [hgp]; exact hΦ
      refine hmono j (got a) (got a') w x (h.rel j hj') fun s hs => ?_
      rw [hgp]
      unfold upd
      by_cases hd : o.dst = some s
      · exfalso
        have hjn : j < n := by
          rcases Nat.lt_or_ge j n with h' | h'
          · exact h'
          · rw [h.front j h'] at hj'; cases hj'
        have hjs : j < ops.size := by
          rw [← h.size]
          rcases Nat.lt_or_ge j L.size with h' | h'
          · exact h'
          · simp [Array.getElem?_eq_none h'] at hj'
        exact hdeep j (hF.late j i o s hjn hjs ho hd hs e) hj'
      · rw [if_neg hd]
  · intro j k hj hk
    rcases hset j hj with rfl | hj'
    · exact getD_set L _ k (waits_ready hi hk)
    · exact getD_set L i k (h.shut j k hj' hk)
  · intro j hj
    have e : i ≠ j := by omega
    have h1 := h.front j hj
    cases h2 : (L.setIfInBounds i true).getD j false with
    | false => rfl
    | true => rw [getD_unset L i j e h2] at h1; cases h1

/-- the steps that are to be shown, one an operation -/
def Steps (P : Program) (md : Region.Mode) (ops : Array Oper) (n : Nat) (Φ : Nat → (Nat → Value) → World → Prop) (a0 : Act) (w0 : World) (Q : Exit → Act → World → Prop) : List Oper → Nat → Prop
  | [], _ => True
  | o :: r, i => (∀ a w, (∃ x, w = plus w0 x) → (∀ s, (ops.any fun o => o.dst == some s) = false → got a s = got a0 s) → (∀ j, deepB md ops n 8 i j = true → Φ j (got a) w) →
      o.wp P a w (fun a' w' => ∃ v, a' = a.put o.dst v ∧ (∃ x, w' = plus w x) ∧ Φ i (upd (got a) o.dst v) w') Q) ∧ Steps P md ops n Φ a0 w0 Q r (i + 1)

theorem steps_at : ∀ (l : List Oper) (k : Nat), Steps P md ops n Φ a0 w0 Q l k → ∀ (i : Nat) (o : Oper), l[i]? = some o → ∀ a w, (∃ x, w = plus w0 x) → (∀ s, (ops.any fun o => o.dst == some s) = false → got a s = got a0 s) → (∀ j, deepB md ops n 8 (k + i) j = true → Φ j (got a) w) →
      o.wp P a w (fun a' w' => ∃ v, a' = a.put o.dst v ∧ (∃ x, w' = plus w x) ∧ Φ (k + i) (upd (got a) o.dst v) w') Q
  | [], _, _, i, o, ho => by simp at ho
  | o :: r, k, h, 0, o', ho => by
    simp only [List.getElem?_cons_zero, Option.some.injEq] at ho
    subst ho
    exact h.1
  | o :: r, k, h, i + 1, o', ho => by
    have := steps_at r (k + 1) h.2 i o' (by simpa using ho)
    rwa [show k + 1 + i = k + (i + 1) by omega] at this

theorem free_of {a : Act} {L : Array Bool} {w : World} (h : RelInv md ops n Φ a0 w0 L a w) : ∀ s, (ops.any fun o => o.dst == some s) = false → got a s = got a0 s := by
  intro s hs
  refine h.free s fun j o ho _ hd => ?_
  have : (ops.any fun o => o.dst == some s) = true := by
    rw [Array.any_eq_true']
    exact ⟨o, Array.mem_of_getElem? ho, by simp [hd]⟩
  rw [hs] at this
  cases this

theorem region_rel {id : Nat} {l : List Oper} (n : Nat) (S : Nat → List Nat) (Φ : Nat → (Nat → Value) → World → Prop) {a : Act} {w : World} (hm : P.follows .mixedOrders = true) (hB : relB .any l.toArray n S a.tmps.size = true) (hn : l.length = n + 1)
    (hmono : ∀ i t t' w x, Φ i t w → (∀ s ∈ S i, t' s = t s) → Φ i t' (plus w x))
    (hst : Steps P .any l.toArray n Φ a w Q (l.take n) 0)
    (hend : ∀ t w', (∃ x, w' = plus w x) → (∀ j, j < n → Φ j t w') → ∀ o, l[n]? = some o → o.wp P (putAll t (l.take n) a) w' (fun a' w'' => Q .normal a' w'') Q) : (Code.region id l.toArray true).wp P Q a w := by
  have hF := relB_facts hB
  refine wp_region_any hm ?_
  refine wpAny_inv (I := fun L a' w' => RelInv .any l.toArray n Φ a w L a' w' ∨ (Region.ready .any l.toArray L = [] ∧ Q .normal a' w')) ?_ ?_ _ _ _ _ ?_ ?_
  · rintro L a' w' i (h | ⟨h, _⟩) hi
    · obtain ⟨hiL, o, ho, hall⟩ := mem_ready.1 hi
      obtain ⟨hiL2, hiS⟩ := getD_false hiL
      have hsz : i < n + 1 := by rw [← hn]; simpa using (Array.getElem?_eq_some_iff.1 ho).1
      have hS : Shut .any l.toArray n L := fun j k _ hj hk => h.shut j k hj hk
      have hdl : ∀ j, deepB .any l.toArray n 8 i j = true → L.getD j false = true := fun j hd => deep_listed hS 8 i j (fun k hk => waits_ready hi hk) hd
      unfold wpOp
      simp only [ho]
      have hwt : Region.wanted o (yielded l.toArray a'.tmps) = true := by simp [Region.wanted, hF.guard i o ho]
      rw [if_pos hwt]
      left
      by_cases hin : i < n
      · have hol : (l.take n)[i]? = some o := by rw [List.getElem?_take, if_pos hin]; simpa using ho
        have hw := steps_at (l.take n) 0 hst i o hol a' w' h.grow (free_of h) (fun j hd => h.rel j (hdl j (by rwa [Nat.zero_add] at hd)))
        rw [Nat.zero_add] at hw
        exact Oper.wp_mono (fun a2 w2 ⟨v, e1, e2, e3⟩ => .inl (rel_step hF hmono h hi hin ho e1 e2 e3)) hw
      · obtain rfl : i = n := by omega
        have hall2 : ∀ j, j < i → L.getD j false = true := fun j hj => hdl j (hF.last i j (Nat.le_refl _) (by simp; omega) hj)
        have ha : a' = putAll (got a') (l.take i) a := by
          have hp := putAll_size (got a') (l.take i) a
          refine act_ext (h.tsz.trans hp.1.symm) (h.dfs.trans hp.2.symm) fun s hs => ?_
          rw [putAll_got _ _ _ _ (by rw [← h.tsz]; exact hs)]
          cases hany : (l.take i).any fun o => o.dst == some s with
          | true => simp
          | false =>
            simp only [Bool.false_eq_true, if_false]
            refine h.free s fun j oj hj hL hd => ?_
            have hjn : j < i := by
              rcases Nat.lt_or_ge j i with h' | h'
              · exact h'
              · rw [h.front j h'] at hL; cases hL
            have : ((l.take i).any fun o => o.dst == some s) = true := List.any_eq_true.2 ⟨oj, List.mem_of_getElem? (i := j) (by rw [List.getElem?_take, if_pos hjn]; simpa using hj), by simp [hd]⟩
            rw [hany] at this
            cases this
        have hE := hend (got a') w' h.grow (fun j hj => h.rel j (hall2 j hj)) o (by simpa using ho)
        rw [← ha] at hE
        refine Oper.wp_mono (fun a2 w2 hq => .inr ⟨?_, hq⟩) hE
        apply List.eq_nil_iff_forall_not_mem.2
        intro j hj
        obtain ⟨hj1, oj, hoj, _⟩ := mem_ready.1 hj
        have hj2 := getD_false hj1
        have hjs : j < i + 1 := by rw [← hn]; simpa using (Array.getElem?_eq_some_iff.1 hoj).1
        by_cases e : j = i
        · subst e
          simp [hiS] at hj1
        · have := getD_set L i j (hall2 j (by omega))
          rw [hj2.1] at this
          cases this
    · rw [h] at hi
      cases hi
  · rintro L a' w' (h | ⟨_, h⟩) hr
    · have := all_listed hF h.size hr n (by simp; omega)
      rw [h.front n (Nat.le_refl _)] at this
      cases this
    · exact h
  · unfold unlisted
    exact Nat.le_trans (List.length_filter_le _ _) (by simp)
  · left
    refine ⟨by simp, rfl, rfl, fun s _ => rfl, ⟨[⟨#[], w.drawn + 1⟩], by simp [plus, blocks, draws]⟩, ?_, ?_, ?_⟩
    · intro i hi
      by_cases hl : i < l.length <;> simp [hl] at hi
    · intro i k hi
      by_cases hl : i < l.length <;> simp [hl] at hi
    · intro i _
      by_cases hl : i < l.length <;> simp [hl]

end
end Go.Proofs.Ytimmbpcoagjcbaa
