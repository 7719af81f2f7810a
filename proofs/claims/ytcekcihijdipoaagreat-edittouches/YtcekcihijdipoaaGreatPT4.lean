/- A pack of texts: Arena1, Arena2, Arena3, Arena4, Rel3, Two, Arena5, Copy, Nodes1, EdLay, Fixed, Fixed2, Fixed3, Vec1, VecEq, TxEq. -/
import Derived.Test.YtcekcihijdipoaaGreatProg
import Derived.Laws.CopyRow
import Derived.Laws.MakeOwn
import Derived.Test.YtcekcihijdipoaaGreatChecked
import Derived.Handy
import Derived.Test.YtcekcihijdipoaaGreatPT2
import Derived.Test.YtcekcihijdipoaaGreatPT3
import Derived.Test.YtcekcihijdipoaaGreatPT1
namespace Go.Proofs.YtcekcihijdipoaaGreat

section


open Go.RowKit Go.ChangeShapes Go.WideShapes Go.ChangeAt

set_option linter.unusedSimpArgs false

set_option linter.unusedVariables false

attribute [local go_sem] plus_size plus_drew dn_set dn_alloc dn_plus plus_dn cell_plus frozen_plus set_plus cell_alloc frozen_alloc set_alloc

theorem wrap_le {n : Int} (h : 0 ≤ n ∧ n ≤ 9223372036854775807) : IntKind.i64.wrap n = n := by
  simp [IntKind.wrap, IntKind.bits, IntKind.signed]
  omega

theorem ex_more {T : World} {x : List More} {d : Nat} : ∃ y, plus T [⟨blocks x, d⟩] = plus (plus T x) y := ⟨[⟨#[], d⟩], by simp [plus, blocks, draws]⟩
theorem sn0 {w w' : World} (h : ∃ y, w' = plus w y := by with_reducible repeat (first | exact ex_refl _ | exact ex_more | apply ex_alloc | apply ex_plus | apply ex_drew | apply ex_drewN | (apply ex_on; assumption))) : ∃ y, w' = plus w y := h
theorem sk0 {w w' : World} (h : ∃ y, w' = plus w y := by with_reducible repeat (first | exact ex_refl _ | exact ex_more | apply ex_alloc | apply ex_plus | apply ex_drew | apply ex_drewN)) : ∃ y, w' = plus w y := h

theorem info_parts' {P : Program} {e : TypeId} {z : Value} {c b : Nat} (h : (P.info? e).map (fun i => (i.zero, i.size, i.bytes)) = some (some z, c, b)) (hc : z.cells.size = c) : ∃ i z, P.info? e = some i ∧ i.zero = some z ∧ i.size = c ∧ i.bytes = b ∧ z.cells.size = c := by
  obtain ⟨i0, hi, hz0, hz1, hz2⟩ := info_parts h
  exact ⟨i0, z, hi, hz0, hz1, hz2, hc⟩

theorem kinS : Kin Tryz.prog 22 86 2 16 := ⟨Tryz.underlying22, info_parts' (z := .agg #[.int .i64 0, .bool false]) (by kernel_rfl) rfl, by decide⟩

theorem kinH : Kin Tryz.prog 88 32 2 16 := ⟨Tryz.underlying88, info_parts' (z := .agg #[.int .i64 0, .int .i64 0]) (by kernel_rfl) rfl, by decide⟩

def fS (s : Sl) : List Value := [.int .i64 s.gen, .bool s.live]

theorem fS_c : ∀ x, (fS x).length = 2 := fun _ => rfl

theorem fS_1 : ∀ x, ∀ u ∈ fS x, u.oneCell' = true := by intro x u hu; simp only [fS, List.mem_cons, List.not_mem_nil, or_false] at hu; rcases hu with rfl | rfl <;> rfl

theorem cellS {w : World} {g off n k : Nat} {l : List Sl} (hl : l.length = n) (h : ∀ j u, (l.flatMap fS)[j]? = some u → w.cell? ⟨g, off + j, none⟩ = some u) (hk : k < n) :
    w.cell? ⟨g, off + k * 2, none⟩ = some (.int .i64 (nth dSl l k).gen) ∧ w.cell? ⟨g, off + k * 2 + 1, none⟩ = some (.bool (nth dSl l k).live) := by
  have h0 := cell_nth (d := dSl) hl fS_c h k 0 _ hk (by decide) rfl
  have h1 := cell_nth (d := dSl) hl fS_c h k 1 _ hk (by decide) rfl
  rw [Nat.add_zero] at h0
  rw [← Nat.add_assoc] at h1
  exact ⟨h0, h1⟩

theorem upto_succ {p : Nat → Prop} {k : Nat} (h : ∀ j, j < k → p j) (hk : p k) : ∀ j, j < k + 1 → p j := by
  intro j hj
  rcases Nat.lt_or_eq_of_le (Nat.le_of_lt_succ hj) with e | e
  · exact h j e
  · exact e ▸ hk

theorem all_bad {α : Type} {p : α → Bool} {d : α} {l : List α} {k : Nat} (hk : k < l.length) (h : p (nth d l k) = false) : l.all p = false := all_not hk h

end

section


open Go.RowKit Go.ChangeShapes Go.WideShapes Go.ChangeAt

set_option linter.unusedSimpArgs false

set_option linter.unusedVariables false

attribute [local go_sem] plus_size plus_drew dn_set dn_alloc dn_plus plus_dn cell_plus frozen_plus set_plus cell_alloc frozen_alloc set_alloc

def allH (l : List Sl) : Nat → List (Int × Int)
  | 0 => []
  | k + 1 => allH l k ++ (if (nth dSl l k).live = true then [((k : Int), (nth dSl l k).gen)] else [])

theorem allH_le (l : List Sl) : ∀ k, (allH l k).length ≤ k
  | 0 => Nat.le_refl _
  | k + 1 => by
    have := allH_le l k
    unfold allH
    rw [List.length_append]
    split
    · simp only [List.length_cons, List.length_nil]; omega
    · simp only [List.length_nil]; omega

def eqS (a b : Sl) : Bool := decide (a.gen = b.gen ∧ a.live = b.live)

def sameS (l l2 : List Sl) : Bool := sameL eqS dSl l l2

theorem eqS_refl (a : Sl) : eqS a a = true := by simp [eqS]

def allErr (l : List Sl) : Int := if arOk l = true then 0 else 8

def allList (l : List Sl) : List (Int × Int) := if arOk l = true then allH l l.length else []

end

section


open Go.RowKit Go.ChangeShapes Go.WideShapes Go.ChangeAt

set_option linter.unusedSimpArgs false

set_option linter.unusedVariables false

attribute [local go_sem] plus_size plus_drew dn_set dn_alloc dn_plus plus_dn cell_plus frozen_plus set_plus cell_alloc frozen_alloc set_alloc

end

section


open Go.RowKit Go.ChangeShapes Go.WideShapes Go.ChangeAt

set_option linter.unusedSimpArgs false

set_option linter.unusedVariables false

attribute [local go_sem] plus_size plus_drew dn_set dn_alloc dn_plus plus_dn cell_plus frozen_plus set_plus cell_alloc frozen_alloc set_alloc

def killRes (l : List Sl) (s g : Int) : List Sl := if killErr l s g = 0 then killList l s else []

def RetA (w : World) (l : List Sl) (r : Int) (e : Ending) (w' : World) : Prop := ∃ ao' cap', e = .returned (.tuple #[.agg #[.slice ao' l.length cap'], .int .i64 r]) ∧ (∃ y, w' = plus w y) ∧ Own 86 2 fS w w' ao' l.length cap' l

end

section


open Go.RowKit

section

variable {P : Program} {md : Region.Mode} {ops : Array Oper} {Q : Exit → Act → World → Prop}

variable {n : Nat} {S : Nat → List Nat} {Φ : Nat → (Nat → Value) → World → Prop} {a0 : Act} {w0 : World} {G : World → World → Prop}

structure RelInv3 (G : World → World → Prop) (md : Region.Mode) (ops : Array Oper) (n : Nat) (Φ : Nat → (Nat → Value) → World → Prop) (a0 : Act) (w0 : World) (L : Array Bool) (a : Act) (w : World) : Prop where
  size : L.size = ops.size
  tsz : a.tmps.size = a0.tmps.size
  dfs : a.defers = a0.defers
  free : ∀ s, (∀ (j : Nat) (o : Oper), ops[j]? = some o → L.getD j false = true → o.dst ≠ some s) → got a s = got a0 s
  grow : G w0 w
  rel : ∀ i, L.getD i false = true → Φ i (got a) w
  shut : ∀ i k, L.getD i false = true → Region.waitsFor md ops i k = true → L.getD k false = true
  front : ∀ i, n ≤ i → L.getD i false = false

theorem rel_step3 (hG : ∀ w1 w2 w3, G w1 w2 → G w2 w3 → G w1 w3) (hF : RelFacts2 md ops n S a0.tmps.size) (hmono : ∀ i t t' w w', Φ i t w → (∀ s ∈ S i, t' s = t s) → G w w' → Φ i t' w') {L : Array Bool} {a a' : Act} {w w' : World} {i : Nat} {o : Oper} {v : Value}
    (h : RelInv3 G md ops n Φ a0 w0 L a w) (hi : i ∈ Region.ready md ops L) (hin : i < n) (ho : ops[i]? = some o) (ha : a' = a.put o.dst v) (hw : G w w') (hΦ : Φ i (upd (got a) o.dst v) w') :
    RelInv3 G md ops n Φ a0 w0 (L.setIfInBounds i true) a' w' := by
  obtain ⟨hiL, hiS⟩ := getD_false2 (mem_ready.1 hi).1
  have hgp : got a' = upd (got a) o.dst v := by
    rw [ha]
    exact got_put fun s hs => by rw [h.tsz]; exact hF.slot i o ho s hs
  have hS : Shut md ops ops.size L := fun j k _ hj hk => h.shut j k hj hk
  have hset : ∀ j, (L.setIfInBounds i true).getD j false = true → j = i ∨ L.getD j false = true := by
    intro j hj
    by_cases e : i = j
    · exact .inl e.symm
    · exact .inr (getD_unset L i j e hj)
  have hdeep : ∀ j, deepB md ops ops.size 8 j i = true → L.getD j false = true → False := by
    intro j hd hj
    have := deep_listed hS 8 j i (fun k hk => h.shut j k hj hk) hd
    rw [hiL] at this
    cases this
  refine ⟨by rw [Array.size_setIfInBounds]; exact h.size, ?_, ?_, ?_, hG _ _ _ h.grow hw, ?_, ?_, ?_⟩
  · rw [ha, ← h.tsz]
    cases o.dst <;> simp [Act.put]
  · rw [ha, ← h.dfs]
    cases o.dst <;> simp [Act.put]
  · intro s hs
    have h1 : o.dst ≠ some s := hs i o ho (by simp [hiS])
    rw [hgp]
    unfold upd
    rw [if_neg h1]
    exact h.free s fun j oj hj hL => hs j oj hj (getD_set L i j hL)
  · intro j hj
    rcases hset j hj with rfl | hj'
    · rw [hgp]; exact hΦ
    · by_cases e : j = i
      · subst e; rw [hgp]; exact hΦ
      refine hmono j (got a) (got a') w w' (h.rel j hj') (fun s hs => ?_) hw
      rw [hgp]
      unfold upd
      by_cases hd : o.dst = some s
      · exfalso
        have hjn : j < n := by
          rcases Nat.lt_or_ge j n with h' | h'
          · exact h'
          · rw [h.front j h'] at hj'; cases hj'
        have hjs : j < ops.size := by
          rw [← h.size]
          rcases Nat.lt_or_ge j L.size with h' | h'
          · exact h'
          · simp [Array.getElem?_eq_none h'] at hj'
        exact hdeep j (hF.late j i o s hjn hjs ho hd hs e) hj'
      · rw [if_neg hd]
  · intro j k hj hk
    rcases hset j hj with rfl | hj'
    · exact getD_set L _ k (waits_ready2 hi hk)
    · exact getD_set L i k (h.shut j k hj' hk)
  · intro j hj
    have e : i ≠ j := by omega
    have h1 := h.front j hj
    cases h2 : (L.setIfInBounds i true).getD j false with
    | false => rfl
    | true => rw [getD_unset L i j e h2] at h1; cases h1

def Steps3 (G : World → World → Prop) (P : Program) (md : Region.Mode) (ops : Array Oper) (n : Nat) (Φ : Nat → (Nat → Value) → World → Prop) (a0 : Act) (w0 : World) (Q : Exit → Act → World → Prop) : List Oper → Nat → Prop
  | [], _ => True
  | o :: r, i => (∀ a w, G w0 w → (∀ s, (ops.any fun o => o.dst == some s) = false → got a s = got a0 s) → (∀ j, deepB md ops ops.size 8 i j = true → Φ j (got a) w) →
      o.wp P a w (fun a' w' => ∃ v, a' = a.put o.dst v ∧ G w w' ∧ Φ i (upd (got a) o.dst v) w') Q) ∧ Steps3 G P md ops n Φ a0 w0 Q r (i + 1)

theorem steps_at3 : ∀ (l : List Oper) (k : Nat), Steps3 G P md ops n Φ a0 w0 Q l k → ∀ (i : Nat) (o : Oper), l[i]? = some o → ∀ a w, G w0 w → (∀ s, (ops.any fun o => o.dst == some s) = false → got a s = got a0 s) → (∀ j, deepB md ops ops.size 8 (k + i) j = true → Φ j (got a) w) →
      o.wp P a w (fun a' w' => ∃ v, a' = a.put o.dst v ∧ G w w' ∧ Φ (k + i) (upd (got a) o.dst v) w') Q
  | [], _, _, i, o, ho => by simp at ho
  | o :: r, k, h, 0, o', ho => by
    simp only [List.getElem?_cons_zero, Option.some.injEq] at ho
    subst ho
    exact h.1
  | o :: r, k, h, i + 1, o', ho => by
    have := steps_at3 r (k + 1) h.2 i o' (by simpa using ho)
    rwa [show k + 1 + i = k + (i + 1) by omega] at this

theorem free_of3 {a : Act} {L : Array Bool} {w : World} (h : RelInv3 G md ops n Φ a0 w0 L a w) : ∀ s, (ops.any fun o => o.dst == some s) = false → got a s = got a0 s := by
  intro s hs
  refine h.free s fun j o ho _ hd => ?_
  have : (ops.any fun o => o.dst == some s) = true := by
    rw [Array.any_eq_true']
    exact ⟨o, Array.mem_of_getElem? ho, by simp [hd]⟩
  rw [hs] at this
  cases this

theorem region_relG {id : Nat} {l : List Oper} (n : Nat) (S : Nat → List Nat) (Φ : Nat → (Nat → Value) → World → Prop) {a : Act} {w : World} (G : World → World → Prop) (hG : ∀ w1 w2 w3, G w1 w2 → G w2 w3 → G w1 w3) (hd : G w { w with drawn := w.drawn + 1 }) (hm : P.follows .mixedOrders = true) (hB : relB2 .any l.toArray n S a.tmps.size = true) (hn : n ≤ l.length)
    (hmono : ∀ i t t' w w', Φ i t w → (∀ s ∈ S i, t' s = t s) → G w w' → Φ i t' w')
    (hst : Steps3 G P .any l.toArray n Φ a w Q (l.take n) 0)
    (hend : ∀ t w', G w w' → (∀ j, j < n → Φ j t w') → wpList P l.toArray Q (l.drop n) (putAll t (l.take n) a) w') : (Code.region id l.toArray true).wp P Q a w := by
  have hF := relB_facts2 hB
  have hsize : l.toArray.size = l.length := by simp
  have hrest : ∀ t w', G w w' → (∀ j, j < n → Φ j t w') → wpOps P l.toArray Q (List.range' n (l.length - n)) (putAll t (l.take n) a) w' := by
    intro t w' h1 h2
    have h := hend t w' h1 h2
    have e := wpOps_eq_wpList (P := P) (Q := Q) (ops := l.toArray) (l.drop n) n (fun j => by simp)
    rw [List.length_drop] at e
    rw [e]
    exact h
  refine wp_region_any hm ?_
  refine wpAny_inv (I := fun L a' w' => (L.size = l.length ∧ RelInv3 G .any l.toArray n Φ a w L a' w') ∨ (L.size = l.length ∧ ∃ i, n ≤ i ∧ i ≤ l.length ∧ (∀ j, L.getD j false = decide (j < i)) ∧ wpOps P l.toArray Q (List.range' i (l.length - i)) a' w')) ?_ ?_ _ _ _ _ ?_ ?_
  · have key : ∀ L a' w' i k, L.size = l.length → n ≤ k → k ≤ l.length → (∀ j, L.getD j false = decide (j < k)) → wpOps P l.toArray Q (List.range' k (l.length - k)) a' w' → i ∈ Region.ready .any l.toArray L →
        wpOp P l.toArray Q i (fun a' w' => ((L.setIfInBounds i true).size = l.length ∧ RelInv3 G .any l.toArray n Φ a w (L.setIfInBounds i true) a' w') ∨ ((L.setIfInBounds i true).size = l.length ∧ ∃ k, n ≤ k ∧ k ≤ l.length ∧ (∀ j, (L.setIfInBounds i true).getD j false = decide (j < k)) ∧ wpOps P l.toArray Q (List.range' k (l.length - k)) a' w')) a' w' := by
      intro L a' w' i k hs hnk hkl hL hw hi
      obtain ⟨hiL, o, ho, hall⟩ := mem_ready.1 hi
      obtain ⟨hiL2, hiS⟩ := getD_false2 hiL
      have hik : k ≤ i := by
        rw [hL i] at hiL2
        simpa using hiL2
      obtain rfl : i = k := by
        rcases Nat.eq_or_lt_of_le hik with e | hlt
        · exact e.symm
        · exfalso
          have hd := hF.last i k (by omega) (by simp; omega) hlt
          have hS : Shut .any l.toArray l.toArray.size L := by
            intro p q hp hp2 hq
            rw [hL p] at hp2
            rw [hL q]
            obtain ⟨oj, h1, e, he, hb, hon⟩ := Region.waitsFor_spec hq
            have := hF.back p oj h1 e he hb
            simp at hp2 ⊢
            omega
          have := deep_listed hS 8 i k (fun q hq => waits_ready2 hi hq) hd
          rw [hL k] at this
          simp at this
      have e1 : List.range' i (l.length - i) = i :: List.range' (i + 1) (l.length - (i + 1)) := by
        rw [show l.length - i = (l.length - (i + 1)) + 1 by omega, List.range'_succ]
      rw [e1, wpOps_cons] at hw
      refine wpOp_mono (fun a2 w2 h2 => .inr ⟨by rw [Array.size_setIfInBounds]; exact hs, i + 1, by omega, by omega, fun j => ?_, h2⟩) hw
      by_cases e : i = j
      · subst e
        simp [hiS]
      · have h3 := hL j
        have h4 : (L.setIfInBounds i true).getD j false = L.getD j false := by simp [e]
        rw [h4, h3]
        have : (j < i) ↔ (j < i + 1) := by omega
        simp [this]
    rintro L a' w' i (⟨hs, h⟩ | ⟨hs, k, hnk, hkl, hL, hw⟩) hi
    · by_cases hin : i < n
      · obtain ⟨hiL, o, ho, hall⟩ := mem_ready.1 hi
        have hS : Shut .any l.toArray l.toArray.size L := fun j k _ hj hk => h.shut j k hj hk
        have hdl : ∀ j, deepB .any l.toArray l.toArray.size 8 i j = true → L.getD j false = true := fun j hd => deep_listed hS 8 i j (fun k hk => waits_ready2 hi hk) hd
        unfold wpOp
        simp only [ho]
        have hwt : Region.wanted o (yielded l.toArray a'.tmps) = true := by simp [Region.wanted, hF.guard i o ho]
        rw [if_pos hwt]
        left
        have hol : (l.take n)[i]? = some o := by rw [List.getElem?_take, if_pos hin]; simpa using ho
        have hw := steps_at3 (l.take n) 0 hst i o hol a' w' h.grow (free_of3 h) (fun j hd => h.rel j (hdl j (by rwa [Nat.zero_add] at hd)))
        rw [Nat.zero_add] at hw
        exact Oper.wp_mono (fun a2 w2 ⟨v, e1, e2, e3⟩ => .inl ⟨by rw [Array.size_setIfInBounds]; exact hs, rel_step3 hG hF hmono h hi hin ho e1 e2 e3⟩) hw
      · obtain ⟨hiL, o, ho, hall⟩ := mem_ready.1 hi
        have hil : i < l.length := by simpa using (Array.getElem?_eq_some_iff.1 ho).1
        have hS : Shut .any l.toArray l.toArray.size L := fun j k _ hj hk => h.shut j k hj hk
        have hall2 : ∀ j, j < i → L.getD j false = true := fun j hj => deep_listed hS 8 i j (fun k hk => waits_ready2 hi hk) (hF.last i j (by omega) (by simp; omega) hj)
        have hin2 : i = n := by
          rcases Nat.lt_or_ge n i with h1 | h1
          · have h2 := hall2 n h1
            rw [h.front n (Nat.le_refl _)] at h2
            cases h2
          · omega
        subst hin2
        have ha : a' = putAll (got a') (l.take i) a := by
          have hp := putAll_size (got a') (l.take i) a
          refine act_ext (h.tsz.trans hp.1.symm) (h.dfs.trans hp.2.symm) fun s hs => ?_
          rw [putAll_got _ _ _ _ (by rw [← h.tsz]; exact hs)]
          cases hany : (l.take i).any fun o => o.dst == some s with
          | true => simp
          | false =>
            simp only [Bool.false_eq_true, if_false]
            refine h.free s fun j oj hj hL hd => ?_
            have hjn : j < i := by
              rcases Nat.lt_or_ge j i with h' | h'
              · exact h'
              · rw [h.front j h'] at hL; cases hL
            have : ((l.take i).any fun o => o.dst == some s) = true := List.any_eq_true.2 ⟨oj, List.mem_of_getElem? (i := j) (by rw [List.getElem?_take, if_pos hjn]; simpa using hj), by simp [hd]⟩
            rw [hany] at this
            cases this
        have hw := hrest (got a') w' h.grow (fun j hj => h.rel j (hall2 j hj))
        rw [← ha] at hw
        refine key L a' w' i i hs (Nat.le_refl _) (by omega) (fun j => ?_) hw hi
        by_cases hj : j < i
        · rw [hall2 j hj, decide_eq_true hj]
        · rw [h.front j (by omega), decide_eq_false hj]
    · exact key L a' w' i k hs hnk hkl hL hw hi
  · rintro L a' w' (⟨hs, h⟩ | ⟨hs, k, hnk, hkl, hL, hw⟩) hr
    · have hall := all_listed2 hF (by rw [hs, hsize]) hr
      have hnl : l.length = n := by
        rcases Nat.lt_or_ge n l.length with h1 | h1
        · have := hall n (by simpa using h1)
          rw [h.front n (Nat.le_refl _)] at this
          cases this
        · omega
      have ha : a' = putAll (got a') (l.take n) a := by
        have hp := putAll_size (got a') (l.take n) a
        refine act_ext (h.tsz.trans hp.1.symm) (h.dfs.trans hp.2.symm) fun s hs => ?_
        rw [putAll_got _ _ _ _ (by rw [← h.tsz]; exact hs)]
        cases hany : (l.take n).any fun o => o.dst == some s with
        | true => simp
        | false =>
          simp only [Bool.false_eq_true, if_false]
          refine h.free s fun j oj hj hL hd => ?_
          have hjn : j < n := by
            rcases Nat.lt_or_ge j n with h' | h'
            · exact h'
            · rw [h.front j h'] at hL; cases hL
          have : ((l.take n).any fun o => o.dst == some s) = true := List.any_eq_true.2 ⟨oj, List.mem_of_getElem? (i := j) (by rw [List.getElem?_take, if_pos hjn]; simpa using hj), by simp [hd]⟩
          rw [hany] at this
          cases this
      have hw := hrest (got a') w' h.grow (fun j hj => h.rel j (hall j (by simp; omega)))
      rw [← ha, hnl, Nat.sub_self] at hw
      exact hw
    · have hall := all_listed2 (n := n) (S := S) (a0 := a) hF (by rw [hs, hsize]) hr
      obtain rfl : k = l.length := by
        rcases Nat.lt_or_ge k l.length with h1 | h1
        · have := hall k (by simpa using h1)
          rw [hL k] at this
          simp at this
        · omega
      rw [Nat.sub_self] at hw
      exact hw
  · unfold unlisted
    exact Nat.le_trans (List.length_filter_le _ _) (by simp)
  · left
    refine ⟨by simp, by simp, rfl, rfl, fun s _ => rfl, hd, ?_, ?_, ?_⟩
    · intro i hi
      by_cases hl : i < l.length <;> simp [hl] at hi
    · intro i k hi
      by_cases hl : i < l.length <;> simp [hl] at hi
    · intro i _
      by_cases hl : i < l.length <;> simp [hl]

end

end

section


open Go.RowKit

structure Two (b1 : Nat) (o1 : Obj) (b2 : Nat) (o2 : Obj) (w w' : World) : Prop where
  os : w'.os = w.os
  tape : w'.tape = w.tape
  output : w'.output = w.output
  size : w.heap.size ≤ w'.heap.size
  rest : ∀ k, k < w.heap.size → k ≠ b1 → k ≠ b2 → w'.heap[k]? = w.heap[k]?
  one : w'.heap[b1]? = w.heap[b1]? ∨ w'.heap[b1]? = some o1
  two : w'.heap[b2]? = w.heap[b2]? ∨ w'.heap[b2]? = some o2

section

variable {b1 b2 : Nat} {o1 o2 : Obj} {w w1 w2 w3 : World}

theorem two_refl (w : World) : Two b1 o1 b2 o2 w w := ⟨rfl, rfl, rfl, Nat.le_refl _, fun _ _ _ _ => rfl, .inl rfl, .inl rfl⟩

theorem two_draw (w : World) : Two b1 o1 b2 o2 w { w with drawn := w.drawn + 1 } := ⟨rfl, rfl, rfl, Nat.le_refl _, fun _ _ _ _ => rfl, .inl rfl, .inl rfl⟩

theorem two_trans : ∀ w1 w2 w3 : World, Two b1 o1 b2 o2 w1 w2 → Two b1 o1 b2 o2 w2 w3 → Two b1 o1 b2 o2 w1 w3 := by
  intro w1 w2 w3 h1 h2
  refine ⟨h2.os.trans h1.os, h2.tape.trans h1.tape, h2.output.trans h1.output, Nat.le_trans h1.size h2.size, fun k hk n1 n2 => ?_, ?_, ?_⟩
  · rw [h2.rest k (Nat.lt_of_lt_of_le hk h1.size) n1 n2]
    exact h1.rest k hk n1 n2
  · rcases h2.one with e | e
    · rw [e]; exact h1.one
    · exact .inr e
  · rcases h2.two with e | e
    · rw [e]; exact h1.two
    · exact .inr e

theorem two_cell {g i : Nat} {v : Value} (h : Two b1 o1 b2 o2 w w1) (hc : w.cell? ⟨g, i, none⟩ = some v) (n1 : g ≠ b1) (n2 : g ≠ b2) : w1.cell? ⟨g, i, none⟩ = some v := by
  have hg := cell_lt hc
  rw [World.cell?_of_block (w := w) (h.rest g hg n1 n2)]
  exact hc

theorem two_one {o : Obj} (h : Two b1 o1 b2 o2 w w1) (hb : w.heap[b1]? = some o) : w1.heap[b1]? = some o ∨ w1.heap[b1]? = some o1 := by
  rcases h.one with e | e
  · exact .inl (e.trans hb)
  · exact .inr e

theorem two_two {o : Obj} (h : Two b1 o1 b2 o2 w w1) (hb : w.heap[b2]? = some o) : w1.heap[b2]? = some o ∨ w1.heap[b2]? = some o2 := by
  rcases h.two with e | e
  · exact .inl (e.trans hb)
  · exact .inr e

theorem two_set1 {i : Nat} {u : Value} (hne : b1 ≠ b2) (h : (w.setCell ⟨b1, i, none⟩ u).heap[b1]? = some o1) : Two b1 o1 b2 o2 w (w.setCell ⟨b1, i, none⟩ u) :=
  ⟨rfl, rfl, rfl, by rw [size_set]; exact Nat.le_refl _, fun k _ n1 _ => blk_set_ne (fun e => n1 e.symm), .inr h, .inl (blk_set_ne hne)⟩

theorem two_set2 {i j : Nat} {u v : Value} (hne : b1 ≠ b2) (h : ((w.setCell ⟨b2, i, none⟩ u).setCell ⟨b2, j, none⟩ v).heap[b2]? = some o2) : Two b1 o1 b2 o2 w ((w.setCell ⟨b2, i, none⟩ u).setCell ⟨b2, j, none⟩ v) :=
  ⟨rfl, rfl, rfl, by rw [size_set, size_set]; exact Nat.le_refl _, fun k _ _ n2 => (blk_set_ne (fun e => n2 e.symm)).trans (blk_set_ne (fun e => n2 e.symm)), .inl ((blk_set_ne (fun e => hne e.symm)).trans (blk_set_ne (fun e => hne e.symm))), .inr h⟩

theorem two_ex {T : World} (h : Two b1 o1 b2 o2 w w1) (hw : ∃ y, w = plus T y) (h1 : T.heap.size ≤ b1) (h2 : T.heap.size ≤ b2) : ∃ y, w1 = plus T y := by
  obtain ⟨y, rfl⟩ := hw
  apply below_plus
  have hb := plus_below T y
  refine ⟨h.os.trans hb.os, h.tape.trans hb.tape, h.output.trans hb.output, Nat.le_trans hb.size h.size, fun n hn => ?_⟩
  have hlt : n < (plus T y).heap.size := Nat.lt_of_lt_of_le hn hb.size
  rw [h.rest n hlt (by omega) (by omega)]
  exact hb.block n hn

end

theorem Own.two {α : Type} {f : α → List Value} {b1 b2 : Nat} {o1 o2 : Obj} {w w1 T : World} {ao : Option Addr} {n cap c : Nat} {l : List α} {e e1 e2 : TypeId} {c1 c2 : Array Value} (h : Own e c f T w ao n cap l) (ht : Two b1 o1 b2 o2 w w1) (h1 : w.heap[b1]? = some (.cells c1 e1)) (h2 : w.heap[b2]? = some (.cells c2 e2)) (n1 : e1 ≠ e) (n2 : e2 ≠ e) : Own e c f T w1 ao n cap l := by
  refine ⟨h.1, h.2.1, h.2.2.imp id ?_⟩
  rintro ⟨k, cp, cu, a1, a2, a3, a4⟩
  refine ⟨k, cp, cu, a1, a2, ?_, a4⟩
  rw [ht.rest k (blk_lt a3) ?_ ?_]
  · exact a3
  · intro e0
    rw [e0, h1] at a3
    cases a3
    exact n1 rfl
  · intro e0
    rw [e0, h2] at a3
    cases a3
    exact n2 rfl

end

section


open Go.RowKit Go.ChangeShapes Go.WideShapes Go.ChangeAt

set_option linter.unusedSimpArgs false

set_option linter.unusedVariables false

attribute [local go_sem] plus_size plus_drew dn_set dn_alloc dn_plus plus_dn cell_plus frozen_plus set_plus cell_alloc frozen_alloc set_alloc

def mkRes (l : List Sl) : List Sl := if mkErr l = 0 then mkList l else []

def mkS (l : List Sl) : Int := if mkErr l = 0 then mkSlot l else 0

def mkG (l : List Sl) : Int := if mkErr l = 0 then mkGen l else 0

def RetM (w : World) (l : List Sl) (s g r : Int) (e : Ending) (w' : World) : Prop := ∃ ao' cap', e = .returned (.tuple #[.agg #[.slice ao' l.length cap'], .agg #[.int .i64 s, .int .i64 g], .int .i64 r]) ∧ (∃ y, w' = plus w y) ∧ Own 86 2 fS w w' ao' l.length cap' l

def m10S (i : Nat) : List Nat := match i with | 0 => [52] | 1 => [53] | 2 => [54] | 3 => [55] | 4 => [56] | 5 => [57] | 6 => [58] | 7 => [59] | 8 => [60] | 11 => [4] | _ => []

def m10Φ (q g1 n c1 k : Nat) (gn : Int) (b1 : Nat) (o1 : Obj) (b2 : Nat) (o2 : Obj) (i : Nat) (t : Nat → Value) (w' : World) : Prop := match i with
  | 0 => t 52 = .agg #[.slice (some ⟨g1, 0, none⟩) n c1]
  | 1 => t 53 = .int .i64 k
  | 2 => t 54 = .pointer (some ⟨q, 0, none⟩)
  | 3 => t 55 = .slice (some ⟨g1, 0, none⟩) n c1
  | 4 => t 56 = .int .i64 k
  | 5 => t 57 = .pointer (some ⟨g1, k * 2, none⟩)
  | 6 => t 58 = .pointer (some ⟨g1, k * 2, none⟩)
  | 7 => t 59 = .int .i64 gn
  | 8 => t 60 = .agg #[.int .i64 k, .int .i64 gn]
  | 9 => w'.heap[b1]? = some o1
  | 10 => w'.heap[b2]? = some o2
  | 11 => t 4 = .int .i64 0
  | _ => True

end

section


open Go.RowKit

set_option linter.unusedSimpArgs false

section

variable {α : Type} {f : α → List Value} {P : Program} {w W : World} {ao : Option Addr} {n m cap c c2 b g o0 : Nat} {l : List α} {e t t2 : TypeId} {cur : Array Value}

theorem run_copy_lay {ty : TypeId} (hk : Kin P t e c b) (hc : ∀ x, (f x).length = c) (h1 : ∀ x, ∀ u ∈ f x, u.oneCell' = true) (hg : w.heap[g]? = some (.cells cur e)) (hl : Lay f w ao m l) (hmn : m ≤ n) (hfit : o0 + m * c ≤ cur.size) :
    (Builtin.copy_ #[t, t2] ty #[.slice (some ⟨g, o0, none⟩) n cap, .slice ao m c2]).run P w = .ok (goInt m) (w.setRow g (cur.toList.take o0 ++ l.flatMap f ++ cur.toList.drop (o0 + m * c)).toArray) := by
  obtain ⟨i, z, hi, _, hz1, _, _⟩ := hk.info
  have hlen : (l.flatMap f).length = m * c := by rw [flat_length hc, hl.len]
  have hst := run_storeCells_at P g o0 e (l.flatMap f) 0 cur w hg (by rw [hlen]; simpa using hfit) (flat_one h1 l)
  rw [hlen] at hst
  have hmin : Nat.min m n = m := Nat.min_eq_left hmn
  by_cases h0 : m = 0
  · subst h0
    obtain rfl := hl.zero
    simp only [List.flatMap_nil, Nat.zero_mul, Nat.add_zero] at hst ⊢
    cases ao with
    | none => simp [Builtin.copy_, run_underlying hk.und, Builtin.lenOf, Builtin.firstCells, sizeOf, typeInfo, hi, hz1, hst]
    | some a0 => simp [Builtin.copy_, run_underlying hk.und, Builtin.lenOf, Builtin.firstCells, sizeOf, typeInfo, hi, hz1, hst, loadCells, loadCellsFrom]
  · obtain ⟨g2, off, rfl, hg2, hcell⟩ := hl.some (by omega)
    have hld := run_loadCells_list (P := P) w ⟨g2, off, none⟩ (l.flatMap f) (fun j u hu => by have hadd : (⟨g2, off, none⟩ : Addr).add j = ⟨g2, off + j, none⟩ := (by unfold Addr.add; split <;> simp_all); rw [hadd]; exact hcell j u hu)
    rw [hlen] at hld
    simp only [Nat.add_zero] at hst
    simp [Builtin.copy_, run_underlying hk.und, Builtin.lenOf, Builtin.firstCells, sizeOf, typeInfo, hi, hz1, hmin, hld, hst]

theorem setRow_alloc (W : World) (cur cs : Array Value) (e : TypeId) : (W.alloc (.cells cur e)).setRow W.heap.size cs = W.alloc (.cells cs e) := by
  unfold World.setRow World.alloc
  congr 1
  apply Array.ext_getElem?
  intro k
  simp only [Array.getElem?_modify, Array.getElem?_push]
  by_cases h : W.heap.size = k
  · subst h; simp
  · have h' : ¬ k = W.heap.size := fun e => h e.symm
    simp [h, h']

theorem setRow_alloc_past (W : World) (ob : Obj) (cs : Array Value) (h : g < W.heap.size) : (W.alloc ob).setRow g cs = (W.setRow g cs).alloc ob := by
  unfold World.setRow World.alloc
  congr 1
  apply Array.ext_getElem?
  intro k
  simp only [Array.getElem?_modify, Array.getElem?_push, Array.size_modify]
  by_cases hk : g = k
  · subst hk
    have : ¬ g = W.heap.size := by omega
    simp [this]
  · simp [hk]

theorem run_copy_new {ob : Obj} {ty : TypeId} (hk : Kin P t e c b) (hc : ∀ x, (f x).length = c) (h1 : ∀ x, ∀ u ∈ f x, u.oneCell' = true) (hg : g = W.heap.size) (hl : Lay f ((W.alloc (.cells cur e)).alloc ob) ao n l) (hsz : cur.size = n * c) :
    (Builtin.copy_ #[t, t2] ty #[.slice (some ⟨g, 0, none⟩) n cap, .slice ao n c2]).run P ((W.alloc (.cells cur e)).alloc ob) = .ok (goInt n) ((W.alloc (.cells (l.flatMap f).toArray e)).alloc ob) := by
  subst hg
  have hb : ((W.alloc (.cells cur e)).alloc ob).heap[W.heap.size]? = some (.cells cur e) := by
    rw [blk_alloc, if_neg (by simp), blk_alloc, if_pos rfl]
  have hrun := run_copy_lay (t2 := t2) (ty := ty) (cap := cap) (c2 := c2) (o0 := 0) hk hc h1 hb hl (Nat.le_refl _) (by omega)
  rw [setRow_alloc_past _ _ _ (by simp), setRow_alloc] at hrun
  simp only [List.take_zero, List.nil_append, Nat.zero_add] at hrun
  rw [List.drop_eq_nil_of_le (by simp; omega), List.append_nil] at hrun
  exact hrun

theorem own_row {T : World} (hl : l.length = n) (hc : ∀ x, (f x).length = c) (hg : w.heap[g]? = some (.cells (l.flatMap f).toArray e)) (hT : T.heap.size ≤ g) (hn : n ≤ maxLen) : Own e c f T w (some ⟨g, 0, none⟩) n n l := by
  have hlen : (l.flatMap f).length = n * c := by rw [flat_length hc, hl]
  exact ⟨hl, hlen, .inr ⟨g, n, _, rfl, hT, hg, Nat.le_refl _, hn, by simpa using hlen, List.take_of_length_le (Nat.le_of_eq hlen)⟩⟩

theorem run_make_lay (hk : ∃ i z, P.info? e = some i ∧ i.zero = some z ∧ i.size = c ∧ i.bytes = b ∧ z.cells.size = c) (hu : P.underlying t = some (.slice e)) (n : Nat) (hn : n ≤ 100000) (hb : b ≤ 100000) : ∃ cur : Array Value, cur.size = n * c ∧ ∀ w : World, (Instr.makeSlice t (.int .i64 n) (.int .i64 n)).run P w = .ok (.slice (some ⟨w.heap.size, 0, none⟩) n n) (w.alloc (.cells cur e)) := by
  obtain ⟨i, z, hi, hz, hz1, hz2, _⟩ := hk
  refine ⟨madeCells z.cells (n * c), size_madeCells _ _, fun w => ?_⟩
  have hb1 : i.bytes * n ≤ 281474976710656 := by
    rw [hz2]
    exact Nat.le_trans (Nat.mul_le_mul hb hn) (by decide)
  have h := run_make w t e i z hu hi hz .i64 .i64 n n (by omega) (Int.le_refl _) (by rw [← Int.natCast_mul]; omega) (by omega)
  rw [Int.toNat_natCast, hz1] at h
  exact h

end

end

section


open Go.RowKit Go.ChangeShapes Go.WideShapes Go.ChangeAt

set_option linter.unusedSimpArgs false

set_option linter.unusedVariables false

attribute [local go_sem] plus_size plus_drew dn_set dn_alloc dn_plus plus_dn cell_plus frozen_plus set_plus cell_alloc frozen_alloc set_alloc

structure RH where
  ao : Option Addr
  n : Nat
  cap : Nat

def dRH : RH := ⟨none, 0, 0⟩

def fR (h : RH) : List Value := [.slice h.ao h.n h.cap]

theorem fR_c : ∀ x, (fR x).length = 1 := fun _ => rfl

theorem fR_1 : ∀ x, ∀ u ∈ fR x, u.oneCell' = true := by intro x u hu; simp only [fR, List.mem_cons, List.not_mem_nil, or_false] at hu; subst hu; rfl

theorem kinR : Kin Tryz.prog 25 88 1 24 := ⟨Tryz.underlying25, info_parts' (z := .slice none 0 0) (by kernel_rfl) rfl, by decide⟩

theorem cellR {w : World} {g off n k : Nat} {l : List RH} (hl : l.length = n) (h : ∀ j u, (l.flatMap fR)[j]? = some u → w.cell? ⟨g, off + j, none⟩ = some u) (hk : k < n) : w.cell? ⟨g, off + k, none⟩ = some (.slice (nth dRH l k).ao (nth dRH l k).n (nth dRH l k).cap) := by
  have h0 := cell_nth (d := dRH) hl fR_c h k 0 _ hk (by decide) rfl
  rwa [Nat.mul_one, Nat.add_zero] at h0

structure GrAt (w : World) (ao : Option Addr) (n : Nat) (ko : Option Addr) (kn : Nat) (hs : List RH) (g : Gr) : Prop where
  sl : Lay fS w ao n g.sl
  kh : Lay fR w ko kn hs
  len : hs.length = g.ks.length
  row : ∀ k, k < hs.length → Lay f2 w (nth dRH hs k).ao (nth dRH hs k).n (nth [] g.ks k)
  n1 : n ≤ 1000
  n2 : kn ≤ 1000
  n3 : ∀ k, k < hs.length → (nth dRH hs k).n ≤ 1000
  n4 : ∀ k, k < hs.length → (nth dRH hs k).n ≤ (nth dRH hs k).cap
  n5 : ∀ k, k < hs.length → (nth dRH hs k).ao = none → (nth dRH hs k).n = 0 ∧ (nth dRH hs k).cap = 0

theorem GrAt.ex {w w' : World} {ao : Option Addr} {n : Nat} {ko : Option Addr} {kn : Nat} {hs : List RH} {g : Gr} (h : GrAt w ao n ko kn hs g) (hw : ∃ x, w' = plus w x) : GrAt w' ao n ko kn hs g :=
  ⟨h.sl.ex hw, h.kh.ex hw, h.len, fun k hk => (h.row k hk).ex hw, h.n1, h.n2, h.n3, h.n4, h.n5⟩

theorem GrAt.kl {w : World} {ao : Option Addr} {n : Nat} {ko : Option Addr} {kn : Nat} {hs : List RH} {g : Gr} (h : GrAt w ao n ko kn hs g) : g.ks.length = kn := h.len.symm.trans h.kh.len

theorem GrAt.rl {w : World} {ao : Option Addr} {n : Nat} {ko : Option Addr} {kn : Nat} {hs : List RH} {g : Gr} (h : GrAt w ao n ko kn hs g) {k : Nat} (hk : k < kn) : (nth [] g.ks k).length = (nth dRH hs k).n := (h.row k (by rw [h.kh.len]; exact hk)).len

def sameK (a b : List (List (Int × Int))) : Bool := sameL same2 [] a b

def sameG (a b : Gr) : Bool := sameS a.sl b.sl && sameK a.ks b.ks

theorem sameG_refl (a : Gr) : sameG a a = true := by
  rw [sameG, show sameS a.sl a.sl = true from same_refl eqS_refl _, show sameK a.ks a.ks = true from same_refl (fun r => same_refl eq2_refl r) _]
  rfl

def sumTo (hs : List RH) : Nat → Nat
  | 0 => 0
  | k + 1 => sumTo hs k + (nth dRH hs k).n

theorem sum_le (hs : List RH) (k : Nat) : ∀ j, sumTo hs k ≤ sumTo hs (k + j)
  | 0 => Nat.le_refl _
  | j + 1 => Nat.le_trans (sum_le hs k j) (Nat.le_add_right _ _)

theorem sum_at (hs : List RH) {k n : Nat} (hk : k < n) : (nth dRH hs k).n ≤ sumTo hs n := by
  have h1 := sum_le hs (k + 1) (n - (k + 1))
  rw [show k + 1 + (n - (k + 1)) = n by omega] at h1
  have : sumTo hs (k + 1) = sumTo hs k + (nth dRH hs k).n := rfl
  omega

def greatB (n kn : Nat) (hs : List RH) : Bool := decide (200 < n) || (decide (200 < kn) || decide (400 < sumTo hs kn))

theorem great_no {n kn : Nat} {hs : List RH} (h : greatB n kn hs = false) : n ≤ 200 ∧ kn ≤ 200 ∧ sumTo hs kn ≤ 400 := by
  simp only [greatB, Bool.or_eq_false_iff, decide_eq_false_iff_not] at h
  omega

set_option maxHeartbeats 4000000 in
theorem great_calls (ao : Option Addr) (n cap : Nat) (ko : Option Addr) (kn kcap : Nat) (hs : List RH) (w : World) (hk : Lay fR w ko kn hs) (hn : n ≤ 9223372036854775807) (hkn : kn ≤ 9223372036854775807) (hr : ∀ k, k < kn → (nth dRH hs k).n ≤ 8796093022208) :
    Calls Tryz.prog 32 #[.agg #[.slice ao n cap, .slice ko kn kcap]] w fun e w' => e = .returned (.bool (greatB n kn hs)) ∧ Below w.heap.size w w' := by
  by_cases h1 : 200 < n
  · rw [show greatB n kn hs = true by simp [greatB, h1]]
    have i1 : (200 : Int) < (n : Int) := by omega
    go_enter Tryz.func32, Tryz.ntmps32
    go_wp2
    go_ret
    exact ⟨rfl, skB⟩
  have i1 : ¬ (200 : Int) < (n : Int) := by omega
  have d1 := decide_eq_false i1
  by_cases h2 : 200 < kn
  · rw [show greatB n kn hs = true by simp [greatB, h2]]
    have i2 : (200 : Int) < (kn : Int) := by omega
    go_enter Tryz.func32, Tryz.ntmps32
    go_wp2
    go_ret
    exact ⟨rfl, skB⟩
  have i2 : ¬ (200 : Int) < (kn : Int) := by omega
  have d2 := decide_eq_false i2
  go_enter Tryz.func32, Tryz.ntmps32
  go_wp2
  go_loopw [3, 4] (fun m i wr => ∃ k : Nat, k ≤ kn ∧ m = .int .i64 (sumTo hs k) ∧ i = .int .i64 k ∧ sumTo hs k ≤ 400 ∧ ∃ x, wr = plus (w.alloc (.cells #[.slice ao n cap, .slice ko kn kcap] 27)) x) (fun _ i _ => kn - (intOf i).toNat)
  case atStart => exact ⟨0, Nat.zero_le _, rfl, rfl, by simp [sumTo], sk0⟩
  case round =>
    obtain ⟨k, hk', rfl, rfl, hs', x, rfl⟩ := hrel
    by_cases hkl : k < kn
    · have ik : (k : Int) < (kn : Int) := by omega
      obtain ⟨g1, o1, rfl, hg1, hc1⟩ := hk.some (by omega)
      have c1 := cellR hk.len hc1 hkl
      have hrk := hr k hkl
      have hS : sumTo hs (k + 1) = sumTo hs k + (nth dRH hs k).n := rfl
      have iw : IntKind.i64.wrap ((sumTo hs k : Int) + ((nth dRH hs k).n : Int)) = (sumTo hs k : Int) + ((nth dRH hs k).n : Int) := wrap_le (by omega)
      by_cases h3 : 400 < sumTo hs (k + 1)
      · have i3 : (400 : Int) < (sumTo hs k : Int) + ((nth dRH hs k).n : Int) := by omega
        have ht : greatB n kn hs = true := by
          have := sum_le hs (k + 1) (kn - (k + 1))
          rw [show k + 1 + (kn - (k + 1)) = kn by omega] at this
          simp [greatB]
          omega
        go_wp2
        go_ret
        exact ⟨by first | rfl | (rw [ht]; rfl), skB⟩
      · have i3 : ¬ (400 : Int) < (sumTo hs k : Int) + ((nth dRH hs k).n : Int) := by omega
        have d3 := decide_eq_false i3
        go_wp2
        go_roundw
        case rel => exact ⟨k + 1, by omega, by rw [hS]; go_num, by go_num, by omega, sk0⟩
        case measure => simp [intOf]; omega
    · have ik : ¬ (k : Int) < (kn : Int) := by omega
      obtain rfl : k = kn := by omega
      have hf : greatB n k hs = false := by
        simp only [greatB, Bool.or_eq_false_iff, decide_eq_false_iff_not]
        omega
      go_wp2
      go_ret
      exact ⟨by first | rfl | (rw [hf]; rfl), skB⟩

end

section


open Go.RowKit

structure NF where
  kind : Int
  m : Mt
  on : Int
  cen : V3
  mesh : Int
  sty : Sy

def nf0 : NF := ⟨0, zeroM, 0, zeroV, 0, sy0⟩

structure Nd where
  f : NF
  far : List Int

def nd0 : Nd := ⟨nf0, []⟩

structure NH where
  f : NF
  ao : Option Addr
  n : Nat
  cap : Nat

def nh0 : NH := ⟨nf0, none, 0, 0⟩

def fN (h : NH) : List Value := .int .u8 h.f.kind :: .int .i64 h.f.m.m.a.x :: .int .i64 h.f.m.m.a.y :: .int .i64 h.f.m.m.a.z :: .int .i64 h.f.m.m.b.x :: .int .i64 h.f.m.m.b.y :: .int .i64 h.f.m.m.b.z :: .int .i64 h.f.m.m.c.x :: .int .i64 h.f.m.m.c.y :: .int .i64 h.f.m.m.c.z :: .int .i64 h.f.m.t.x :: .int .i64 h.f.m.t.y :: .int .i64 h.f.m.t.z :: .int .u16 h.f.on :: .int .i64 h.f.cen.x :: .int .i64 h.f.cen.y :: .int .i64 h.f.cen.z :: .slice h.ao h.n h.cap :: .int .i64 h.f.mesh :: .int .u8 h.f.sty.s0 :: .int .u8 h.f.sty.s1 :: .int .u8 h.f.sty.s2 :: .int .u8 h.f.sty.s3 :: .int .u8 h.f.sty.s4 :: .int .u8 h.f.sty.l.r :: .int .u8 h.f.sty.l.g :: .int .u8 h.f.sty.l.b :: .int .u8 h.f.sty.l.a :: .int .i64 h.f.sty.l.tx :: .int .u8 h.f.sty.l.cu :: .int .i64 h.f.sty.l.bi :: .bool h.f.sty.l.bl :: .int .i64 h.f.sty.l.bn :: []

def vN (h : NH) : Value := .agg (List.toArray (.int .u8 h.f.kind :: .int .i64 h.f.m.m.a.x :: .int .i64 h.f.m.m.a.y :: .int .i64 h.f.m.m.a.z :: .int .i64 h.f.m.m.b.x :: .int .i64 h.f.m.m.b.y :: .int .i64 h.f.m.m.b.z :: .int .i64 h.f.m.m.c.x :: .int .i64 h.f.m.m.c.y :: .int .i64 h.f.m.m.c.z :: .int .i64 h.f.m.t.x :: .int .i64 h.f.m.t.y :: .int .i64 h.f.m.t.z :: .int .u16 h.f.on :: .int .i64 h.f.cen.x :: .int .i64 h.f.cen.y :: .int .i64 h.f.cen.z :: .slice h.ao h.n h.cap :: .int .i64 h.f.mesh :: .int .u8 h.f.sty.s0 :: .int .u8 h.f.sty.s1 :: .int .u8 h.f.sty.s2 :: .int .u8 h.f.sty.s3 :: .int .u8 h.f.sty.s4 :: .int .u8 h.f.sty.l.r :: .int .u8 h.f.sty.l.g :: .int .u8 h.f.sty.l.b :: .int .u8 h.f.sty.l.a :: .int .i64 h.f.sty.l.tx :: .int .u8 h.f.sty.l.cu :: .int .i64 h.f.sty.l.bi :: .bool h.f.sty.l.bl :: .int .i64 h.f.sty.l.bn :: []))

theorem fN_c : ∀ x, (fN x).length = 33 := fun _ => rfl

theorem fN_1 : ∀ x, ∀ u ∈ fN x, u.oneCell' = true := by
  intro x u hu
  simp only [fN, List.mem_cons, List.not_mem_nil, or_false] at hu
  rcases hu with rfl | rfl | rfl | rfl | rfl | rfl | rfl | rfl | rfl | rfl | rfl | rfl | rfl | rfl | rfl | rfl | rfl | rfl | rfl | rfl | rfl | rfl | rfl | rfl | rfl | rfl | rfl | rfl | rfl | rfl | rfl | rfl | rfl <;> rfl

structure NfB (f : NF) : Prop where
  kind : 0 ≤ f.kind ∧ f.kind ≤ 255
  on : 0 ≤ f.on ∧ f.on ≤ 65535
  sty : SyB f.sty

structure NodeAt (w : World) (h : NH) (n : Nd) : Prop where
  f : h.f = n.f
  b : NfB n.f
  le : h.n ≤ 9223372036854775807
  cap : h.n ≤ h.cap
  nil : h.ao = none → h.n = 0 ∧ h.cap = 0
  lay : Lay fI w h.ao h.n n.far

theorem NodeAt.ex {w w' : World} {h : NH} {n : Nd} (a : NodeAt w h n) (hw : ∃ x, w' = plus w x) : NodeAt w' h n := ⟨a.f, a.b, a.le, a.cap, a.nil, a.lay.ex hw⟩

structure NodesAt (w : World) (hs : List NH) (ns : List Nd) : Prop where
  len : hs.length = ns.length
  one : ∀ k, k < hs.length → NodeAt w (nth nh0 hs k) (nth nd0 ns k)

theorem NodesAt.ex {w w' : World} {hs : List NH} {ns : List Nd} (a : NodesAt w hs ns) (hw : ∃ x, w' = plus w x) : NodesAt w' hs ns := ⟨a.len, fun k hk => (a.one k hk).ex hw⟩

def fMh (h : MH) : List Value := [.slice h.va h.vn h.vc, .slice h.ua h.un h.uc, .slice h.pa h.pn h.pc]

def mh0 : MH := ⟨none, 0, 0, none, 0, 0, none, 0, 0⟩

def ms0 : Ms := ⟨[], [], []⟩

theorem fMh_c : ∀ x, (fMh x).length = 3 := fun _ => rfl

theorem fMh_1 : ∀ x, ∀ u ∈ fMh x, u.oneCell' = true := by intro x u hu; simp only [fMh, List.mem_cons, List.not_mem_nil, or_false] at hu; rcases hu with rfl | rfl | rfl <;> rfl

theorem cellMh {w : World} {g off n k : Nat} {l : List MH} (hl : l.length = n) (h : ∀ j u, (l.flatMap fMh)[j]? = some u → w.cell? ⟨g, off + j, none⟩ = some u) (hk : k < n) :
    w.cell? ⟨g, off + k * 3, none⟩ = some (.slice (nth mh0 l k).va (nth mh0 l k).vn (nth mh0 l k).vc) ∧ w.cell? ⟨g, off + k * 3 + 1, none⟩ = some (.slice (nth mh0 l k).ua (nth mh0 l k).un (nth mh0 l k).uc) ∧ w.cell? ⟨g, off + k * 3 + 2, none⟩ = some (.slice (nth mh0 l k).pa (nth mh0 l k).pn (nth mh0 l k).pc) := by
  have h0 := cell_nth (d := mh0) hl fMh_c h k 0 _ hk (by decide) rfl
  have h1 := cell_nth (d := mh0) hl fMh_c h k 1 _ hk (by decide) rfl
  have h2 := cell_nth (d := mh0) hl fMh_c h k 2 _ hk (by decide) rfl
  rw [Nat.add_zero] at h0
  rw [← Nat.add_assoc] at h1 h2
  exact ⟨h0, h1, h2⟩

structure MeshesAt (w : World) (hs : List MH) (ps : List (List PH)) (ms : List Ms) : Prop where
  len : hs.length = ms.length
  one : ∀ k, k < hs.length → MeshAt w (nth mh0 hs k) (nth [] ps k) (nth ms0 ms k)

theorem MeshesAt.ex {w w' : World} {hs : List MH} {ps : List (List PH)} {ms : List Ms} (a : MeshesAt w hs ps ms) (hw : ∃ x, w' = plus w x) : MeshesAt w' hs ps ms := ⟨a.len, fun k hk => (a.one k hk).ex hw⟩

structure Tp where
  w : Int
  h : Int
  l : List Cl

def tp0 : Tp := ⟨0, 0, []⟩

structure TexAt (w : World) (h : TH) (t : Tp) : Prop where
  we : h.w = t.w
  he : h.h = t.h
  tx : TxAt w h t.l

theorem TexAt.ex {w w' : World} {h : TH} {t : Tp} (a : TexAt w h t) (hw : ∃ x, w' = plus w x) : TexAt w' h t := ⟨a.we, a.he, a.tx.ex hw⟩

structure TexsAt (w : World) (hs : List TH) (ts : List Tp) : Prop where
  len : hs.length = ts.length
  one : ∀ k, k < hs.length → TexAt w (nth th0 hs k) (nth tp0 ts k)

theorem TexsAt.ex {w w' : World} {hs : List TH} {ts : List Tp} (a : TexsAt w hs ts) (hw : ∃ x, w' = plus w x) : TexsAt w' hs ts := ⟨a.len, fun k hk => (a.one k hk).ex hw⟩

structure Sc where
  g : Gr
  ns : List Nd
  ms : List Ms
  ts : List Tp
  root : Int × Int

def sc0 : Sc := ⟨⟨[], []⟩, [], [], [], (0, 0)⟩

structure SH where
  ga : Option Addr
  gn : Nat
  gc : Nat
  ka : Option Addr
  kn : Nat
  kc : Nat
  na : Option Addr
  nn : Nat
  nc : Nat
  ma : Option Addr
  mn : Nat
  mc : Nat
  ta : Option Addr
  tn : Nat
  tc : Nat
  r0 : Int
  r1 : Int

def vS (h : SH) : Value := .agg #[.slice h.ga h.gn h.gc, .slice h.ka h.kn h.kc, .slice h.na h.nn h.nc, .slice h.ma h.mn h.mc, .slice h.ta h.tn h.tc, .int .i64 h.r0, .int .i64 h.r1]

structure SX where
  gr : List RH
  nh : List NH
  mh : List MH
  ph : List (List PH)
  th : List TH

structure RestAt (w : World) (h : SH) (x : SX) (s : Sc) : Prop where
  nl : Lay fN w h.na h.nn x.nh
  ns : NodesAt w x.nh s.ns
  ml : Lay fMh w h.ma h.mn x.mh
  ms : MeshesAt w x.mh x.ph s.ms
  tl : Lay fTh w h.ta h.tn x.th
  ts : TexsAt w x.th s.ts
  n1 : h.nn ≤ 9223372036854775807
  n2 : h.mn ≤ 9223372036854775807
  n3 : h.tn ≤ 9223372036854775807
  root : s.root = (h.r0, h.r1)

theorem RestAt.ex {w w' : World} {h : SH} {x : SX} {s : Sc} (a : RestAt w h x s) (hw : ∃ y, w' = plus w y) : RestAt w' h x s :=
  ⟨a.nl.ex hw, a.ns.ex hw, a.ml.ex hw, a.ms.ex hw, a.tl.ex hw, a.ts.ex hw, a.n1, a.n2, a.n3, a.root⟩

end

section


open Go.RowKit

set_option linter.unusedSimpArgs false

attribute [local go_sem] plus_size plus_drew dn_set dn_alloc dn_plus plus_dn cell_plus frozen_plus set_plus cell_alloc frozen_alloc set_alloc

theorem ret_int {k : IntKind} {a b : Int} (h : a = b) : Ending.returned (.int k a) = .returned (.int k b) := by rw [h]

def flo (a b : Int) : Int × Int := if 1 ≤ b then (a / b, 0) else (0, 2)

def cei (a b : Int) : Int × Int := if 1 ≤ b then (up a b, 0) else (0, 2)

end

section


open Go.RowKit

set_option linter.unusedSimpArgs false

attribute [local go_sem] plus_size plus_drew dn_set dn_alloc dn_plus plus_dn cell_plus frozen_plus set_plus cell_alloc frozen_alloc set_alloc

end

section


open Go.RowKit

set_option linter.unusedSimpArgs false

attribute [local go_sem] plus_size plus_drew dn_set dn_alloc dn_plus plus_dn cell_plus frozen_plus set_plus cell_alloc frozen_alloc set_alloc

end

section


open Go.RowKit Go.ChangeShapes Go.WideShapes Go.ChangeAt

set_option linter.unusedSimpArgs false

set_option linter.unusedVariables false

attribute [local go_sem] plus_size plus_drew dn_set dn_alloc dn_plus plus_dn cell_plus frozen_plus set_plus cell_alloc frozen_alloc set_alloc

@[local go_sem] theorem ix3_0 (a b c : Value) (w : World) : (Instr.index 40 (.agg #[a, b, c]) (.int .i64 0)).run Tryz.prog w = .ok a w := by kernel_rfl

@[local go_sem] theorem ix3_1 (a b c : Value) (w : World) : (Instr.index 40 (.agg #[a, b, c]) (.int .i64 1)).run Tryz.prog w = .ok b w := by kernel_rfl

@[local go_sem] theorem ix3_2 (a b c : Value) (w : World) : (Instr.index 40 (.agg #[a, b, c]) (.int .i64 2)).run Tryz.prog w = .ok c w := by kernel_rfl

@[local go_sem] theorem ix9_0 (a b c d e f g h i : Value) (w : World) : (Instr.index 41 (.agg #[a, b, c, d, e, f, g, h, i]) (.int .i64 0)).run Tryz.prog w = .ok (.agg #[a, b, c]) w := by kernel_rfl

@[local go_sem] theorem ix9_1 (a b c d e f g h i : Value) (w : World) : (Instr.index 41 (.agg #[a, b, c, d, e, f, g, h, i]) (.int .i64 1)).run Tryz.prog w = .ok (.agg #[d, e, f]) w := by kernel_rfl

@[local go_sem] theorem ix9_2 (a b c d e f g h i : Value) (w : World) : (Instr.index 41 (.agg #[a, b, c, d, e, f, g, h, i]) (.int .i64 2)).run Tryz.prog w = .ok (.agg #[g, h, i]) w := by kernel_rfl

theorem allWithin_calls (a b c l : Int) (h0 : 0 ≤ l) (h1 : l ≤ 1000000) (w : World) :
    Calls Tryz.prog 148 #[.agg #[.int .i64 a, .int .i64 b, .int .i64 c], .int .i64 l] w fun e w' => e = .returned (.bool (all3 ⟨a, b, c⟩ l)) ∧ Below w.heap.size w w' := by
  rcases within_or a l with ⟨a1, a2, a3⟩ | ⟨a1, a3⟩ | ⟨a1, a2, a3⟩
  · rcases within_or b l with ⟨b1, b2, b3⟩ | ⟨b1, b3⟩ | ⟨b1, b2, b3⟩
    · rcases within_or c l with ⟨c1, c2, c3⟩ | ⟨c1, c3⟩ | ⟨c1, c2, c3⟩
      all_goals
        rw [all3, a3, b3, c3]
        clear a3 b3 c3
        go_enter Tryz.func148, Tryz.ntmps148
        go_wp2
        go_rounds 4
        go_ret
        exact ⟨rfl, skB⟩
    all_goals
      rw [all3, a3, b3]
      clear a3 b3
      go_enter Tryz.func148, Tryz.ntmps148
      go_wp2
      go_rounds 4
      go_ret
      exact ⟨rfl, skB⟩
  all_goals
    rw [all3, a3]
    clear a3
    go_enter Tryz.func148, Tryz.ntmps148
    go_wp2
    go_rounds 4
    go_ret
    exact ⟨rfl, skB⟩

theorem numbers_calls (x y z : Int) (w : World) :
    Calls Tryz.prog 149 #[.agg #[.int .i64 x, .int .i64 y, .int .i64 z]] w fun e w' => e = .returned (.agg #[.int .i64 x, .int .i64 y, .int .i64 z]) ∧ Below w.heap.size w w' := by
  go_enter Tryz.func149, Tryz.ntmps149
  go_wp2
  exact bodyPost_ret (v := .agg #[.int .i64 x, .int .i64 y, .int .i64 z]) (by simp [results, Tryz.results149, go_sem, ↓IntWalk.iteOmega]) rfl ⟨rfl, skB⟩

theorem rowsWithin_calls (a b c d o f g u i l : Int) (h0 : 0 ≤ l) (h1 : l ≤ 1000000) (w : World) :
    Calls Tryz.prog 147 #[.agg #[.int .i64 a, .int .i64 b, .int .i64 c, .int .i64 d, .int .i64 o, .int .i64 f, .int .i64 g, .int .i64 u, .int .i64 i], .int .i64 l] w fun e w' => e = .returned (.bool (all9 ⟨⟨a, b, c⟩, ⟨d, o, f⟩, ⟨g, u, i⟩⟩ l)) ∧ Below w.heap.size w w' := by
  cases r1 : all3 ⟨a, b, c⟩ l
  · rw [show all9 ⟨⟨a, b, c⟩, ⟨d, o, f⟩, ⟨g, u, i⟩⟩ l = false by simp [all9, r1]]
    go_enter Tryz.func147, Tryz.ntmps147
    go_wp2
    refine wp_loop_rounds 4 ?_
    repeat any_goals (rw [rounds_succ]; go_wp2_with (go_at_call 148; refine (plus_post (allWithin_calls _ _ _ _ (by omega) (by omega) _)).mono ?_; rintro e w' ⟨rfl, nx, rfl⟩))
    go_ret
    exact ⟨rfl, skB⟩
  · cases r2 : all3 ⟨d, o, f⟩ l
    · rw [show all9 ⟨⟨a, b, c⟩, ⟨d, o, f⟩, ⟨g, u, i⟩⟩ l = false by simp [all9, r2]]
      go_enter Tryz.func147, Tryz.ntmps147
      go_wp2
      refine wp_loop_rounds 4 ?_
      repeat any_goals (rw [rounds_succ]; go_wp2_with (go_at_call 148; refine (plus_post (allWithin_calls _ _ _ _ (by omega) (by omega) _)).mono ?_; rintro e w' ⟨rfl, nx, rfl⟩))
      go_ret
      exact ⟨rfl, skB⟩
    · cases r3 : all3 ⟨g, u, i⟩ l
      · rw [show all9 ⟨⟨a, b, c⟩, ⟨d, o, f⟩, ⟨g, u, i⟩⟩ l = false by simp [all9, r3]]
        go_enter Tryz.func147, Tryz.ntmps147
        go_wp2
        refine wp_loop_rounds 4 ?_
        repeat any_goals (rw [rounds_succ]; go_wp2_with (go_at_call 148; refine (plus_post (allWithin_calls _ _ _ _ (by omega) (by omega) _)).mono ?_; rintro e w' ⟨rfl, nx, rfl⟩))
        go_ret
        exact ⟨rfl, skB⟩
      · rw [show all9 ⟨⟨a, b, c⟩, ⟨d, o, f⟩, ⟨g, u, i⟩⟩ l = true by simp [all9, r1, r2, r3]]
        go_enter Tryz.func147, Tryz.ntmps147
        go_wp2
        refine wp_loop_rounds 4 ?_
        repeat any_goals (rw [rounds_succ]; go_wp2_with (go_at_call 148; refine (plus_post (allWithin_calls _ _ _ _ (by omega) (by omega) _)).mono ?_; rintro e w' ⟨rfl, nx, rfl⟩))
        go_ret
        exact ⟨rfl, skB⟩

end

section


open Go.RowKit Go.ChangeShapes Go.WideShapes Go.ChangeAt

set_option linter.unusedSimpArgs false

set_option linter.unusedVariables false

attribute [local go_sem] plus_size plus_drew dn_set dn_alloc dn_plus plus_dn cell_plus frozen_plus set_plus cell_alloc frozen_alloc set_alloc

theorem eq3 (n : Nat) (a b c a2 b2 c2 : Int) (w : World) : (Op.equalIn (n + 1 + 1) 40 (.agg #[.int .i64 a, .int .i64 b, .int .i64 c]) (.agg #[.int .i64 a2, .int .i64 b2, .int .i64 c2])).run Tryz.prog w = .ok (a == a2 && (b == b2 && c == c2)) w := by
  have u3 := Tryz.underlying3
  have a3 := Tryz.isAgg3
  have z3 := Tryz.sizeOf3
  rw [Op.equalIn]
  simp only [Sem.run_bind, run_underlying Tryz.underlying40, Result.andThen_ok]
  simp only [Std.Legacy.Range.forIn_eq_forIn_range', Std.Legacy.Range.size, Nat.sub_zero, Nat.add_sub_cancel, Nat.div_one, List.range'_succ, List.range'_zero, List.forIn_cons, List.forIn_nil]
  go_simp
  by_cases h1 : a = a2 <;> by_cases h2 : b = b2 <;> by_cases h3 : c = c2 <;> simp [h1, h2, h3]

theorem eq9 (n : Nat) (a b c d o f g u i a2 b2 c2 d2 o2 f2 g2 u2 i2 : Int) (w : World) : (Op.equalIn (n + 1 + 1 + 1) 41 (.agg #[.int .i64 a, .int .i64 b, .int .i64 c, .int .i64 d, .int .i64 o, .int .i64 f, .int .i64 g, .int .i64 u, .int .i64 i]) (.agg #[.int .i64 a2, .int .i64 b2, .int .i64 c2, .int .i64 d2, .int .i64 o2, .int .i64 f2, .int .i64 g2, .int .i64 u2, .int .i64 i2])).run Tryz.prog w =
    .ok ((a == a2 && (b == b2 && c == c2)) && ((d == d2 && (o == o2 && f == f2)) && (g == g2 && (u == u2 && i == i2)))) w := by
  have u3 := Tryz.underlying40
  have a3 := Tryz.isAgg40
  have z3 := Tryz.sizeOf40
  rw [Op.equalIn]
  simp only [Sem.run_bind, run_underlying Tryz.underlying41, Result.andThen_ok]
  simp only [Std.Legacy.Range.forIn_eq_forIn_range', Std.Legacy.Range.size, Nat.sub_zero, Nat.add_sub_cancel, Nat.div_one, List.range'_succ, List.range'_zero, List.forIn_cons, List.forIn_nil]
  have e1 := eq3 n a b c a2 b2 c2
  have e2 := eq3 n d o f d2 o2 f2
  have e3 := eq3 n g u i g2 u2 i2
  generalize (a == a2 && (b == b2 && c == c2)) = k1 at *
  generalize (d == d2 && (o == o2 && f == f2)) = k2 at *
  generalize (g == g2 && (u == u2 && i == i2)) = k3 at *
  go_simp
  cases k1 <;> cases k2 <;> cases k3 <;> simp

end

section


open Go.RowKit Go.ChangeShapes Go.WideShapes Go.ChangeAt

set_option linter.unusedSimpArgs false

set_option linter.unusedVariables false

attribute [local go_sem] plus_size plus_drew dn_set dn_alloc dn_plus plus_dn cell_plus frozen_plus set_plus cell_alloc frozen_alloc set_alloc

set_option maxRecDepth 10000 in
theorem colx_50 (n : Nat) (a0 a1 a2 a3 b0 b1 b2 b3 : Int) (w : World) : (Op.equalIn (n + 1 + 1) 50 (.agg #[.int .u8 a0, .int .u8 a1, .int .u8 a2, .int .u8 a3]) (.agg #[.int .u8 b0, .int .u8 b1, .int .u8 b2, .int .u8 b3])).run Tryz.prog w = .ok (eqCx a0 a1 a2 a3 b0 b1 b2 b3) w := by
  have yu := Tryz.underlying5
  have ya := Tryz.isAgg5
  have yz := Tryz.sizeOf5
  rw [Op.equalIn]
  simp only [Sem.run_bind, run_underlying Tryz.underlying50, Result.andThen_ok]
  simp only [Std.Legacy.Range.forIn_eq_forIn_range', Std.Legacy.Range.size, Nat.sub_zero, Nat.add_sub_cancel, Nat.div_one, List.range'_succ, List.range'_zero, List.forIn_cons, List.forIn_nil]
  go_simp
  unfold eqCx
  by_cases h0 : a0 = b0 <;> by_cases h1 : a1 = b1 <;> by_cases h2 : a2 = b2 <;> by_cases h3 : a3 = b3 <;> simp [*]

theorem colc_50 (a0 a1 a2 a3 b0 b1 b2 b3 : Int) (w : World) : (Op.equalIn 10000 50 (.agg #[.int .u8 a0, .int .u8 a1, .int .u8 a2, .int .u8 a3]) (.agg #[.int .u8 b0, .int .u8 b1, .int .u8 b2, .int .u8 b3])).run Tryz.prog w = .ok (eqCx a0 a1 a2 a3 b0 b1 b2 b3) w := colx_50 9998 a0 a1 a2 a3 b0 b1 b2 b3 w

theorem cole_50 (a0 a1 a2 a3 b0 b1 b2 b3 : Int) (w : World) : (binOp .eql 50 (.agg #[.int .u8 a0, .int .u8 a1, .int .u8 a2, .int .u8 a3]) (.agg #[.int .u8 b0, .int .u8 b1, .int .u8 b2, .int .u8 b3])).run Tryz.prog w = .ok (.bool (eqCx a0 a1 a2 a3 b0 b1 b2 b3)) w := by
  simp only [binOp]
  simp [Op.equal, Op.maxDepth, colx_50 9998]

theorem coln_50 (a0 a1 a2 a3 b0 b1 b2 b3 : Int) (w : World) : (binOp .neq 50 (.agg #[.int .u8 a0, .int .u8 a1, .int .u8 a2, .int .u8 a3]) (.agg #[.int .u8 b0, .int .u8 b1, .int .u8 b2, .int .u8 b3])).run Tryz.prog w = .ok (.bool (!(eqCx a0 a1 a2 a3 b0 b1 b2 b3))) w := by
  simp only [binOp]
  simp [Op.equal, Op.maxDepth, colx_50 9998]

end

end Go.Proofs.YtcekcihijdipoaaGreat
