/- A pack of texts: Fresh, Mesh1, Mesh4, Tx1, Tx2, Ed1, Ed2. -/
import Derived.Test.YtcekcihijdipoaaGreatProg
import Derived.Deep.RegionHeld3
import Derived.BigRegion
import Derived.Test.YtcekcihijdipoaaGreatPN2
import Derived.Test.YtcekcihijdipoaaGreatPN1
import Derived.Test.YtcekcihijdipoaaGreatPN4
namespace Go.Proofs.YtcekcihijdipoaaGreat

section


open Go.RowKit

section

variable {P : Program} {md : Region.Mode} {l : List Oper} {m n : Nat}

def lateB (l : List Oper) (i : Nat) : Bool := match l[i]? with
  | some o => o.guard.isNone && (match o.op with | .extract _ _ => true | _ => false)
  | none => false

theorem late_spec {i : Nat} (h : lateB l i = true) : ∃ o t k, l[i]? = some o ∧ o.guard = none ∧ o.op = .extract t k := by
  unfold lateB at h
  split at h
  · rename_i o ho
    simp only [Bool.and_eq_true] at h
    cases hop : o.op <;> simp [hop] at h
    exact ⟨o, _, _, ho, h, hop⟩
  · cases h

theorem extract_pure {C : World → Prop} {o : Oper} {a : Act} {w0 : World} {v : Value} {t : Operand} {k : Nat} (ho : o.op = .extract t k) (h : o.quietAt P a C w0 v) : ∀ w, (execOp a.eval o).run P w = .ok (.value v) w := by
  intro w
  unfold Oper.quietAt execOp at h
  unfold execOp
  simp only [ho] at h ⊢
  unfold Instr.extract at h ⊢
  cases ht : a.eval t <;> simp only [ht] at h ⊢
  case tuple vs =>
    cases hv : vs[k]? with
    | none => simp [hv, stuck, Oper.quietUpon] at h
    | some u =>
      simp only [hv] at h ⊢
      simp [Oper.quietUpon] at h
      simp [h]
  all_goals simp [stuck, Oper.quietUpon] at h

def awaitB (md : Region.Mode) (l : List Oper) (m : Nat) : Bool :=
  (List.range l.length).all fun t => decide (t < m) || (List.range m).all fun i => lateB l i || deepB md l.toArray m 2 t i

def freeB (md : Region.Mode) (l : List Oper) (m : Nat) : Bool :=
  (List.range m).all fun p => !lateB l p || (List.range l.length).all fun j => j == p || (match l[p]?, l[j]? with
    | some op, some oj => Region.waitsFor md l.toArray p j || (oj.after.any (fun e => Region.binds md e && e.on == p) || op.apart l.toArray oj)
    | _, _ => true)

theorem await_spec (h : awaitB md l m = true) {t i : Nat} (ht : m ≤ t) (htl : t < l.length) (hi : i < m) (hl : lateB l i = false) : deepB md l.toArray m 2 t i = true := by
  have h1 := List.all_eq_true.1 h t (List.mem_range.2 htl)
  simp only [Bool.or_eq_true, decide_eq_true_eq] at h1
  rcases h1 with h1 | h1
  · omega
  · have h2 := List.all_eq_true.1 h1 i (List.mem_range.2 hi)
    simpa [hl] using h2

theorem free_spec (h : freeB md l m = true) {p : Nat} {op : Oper} (hp : p < m) (hl : lateB l p = true) (hop : l[p]? = some op) (j : Nat) (oj : Oper) (hoj : l[j]? = some oj) (hne : j ≠ p)
    (hno : ∀ e ∈ oj.after, Region.binds md e = true → e.on ≠ p) (hnw : Region.waitsFor md l.toArray p j = false) : op.apart l.toArray oj = true := by
  have h1 := List.all_eq_true.1 h p (List.mem_range.2 hp)
  simp only [hl, Bool.not_true, Bool.false_or] at h1
  have hjl : j < l.length := (List.getElem?_eq_some_iff.1 hoj).1
  have h2 := List.all_eq_true.1 h1 j (List.mem_range.2 hjl)
  simp only [hop, hoj, hnw, Bool.false_or, Bool.or_eq_true] at h2
  rcases h2 with h2 | h2 | h2
  · simp [hne] at h2
  · obtain ⟨e, he, hb⟩ := Array.any_eq_true'.1 h2
    simp only [Bool.and_eq_true, beq_iff_eq] at hb
    exact absurd hb.2 (hno e he hb.1)
  · exact h2

theorem tail_inv {Q : Exit → Act → World → Prop} (Inv : Nat → Array Bool → Act → World → Prop)
    (hb : backB md l m = true) (hw : awaitB md l m = true) (hn : m ≤ l.length) (hfree : freeB md l m = true) (hsel : Region.noSelect l.toArray = true) (hQ : ∀ c a x v w, Q (.panic c) (a.put x v) w → Q (.panic c) a w)
    (h2 : ∀ f L a w i, L.size = m → Inv (f + 1) L a w → i < m → lateB l i = true → i ∈ Region.ready md (l.take m).toArray L →
      ∃ o v, l[i]? = some o ∧ Yields P l.toArray o v a ∧ Inv f (L.setIfInBounds i true) (a.put o.dst v) w)
    (hs : Region.seqB md l.toArray (l.length - m) m (Array.replicate m true ++ Array.replicate (l.length - m) false) = true)
    (h0 : ∀ a w, Inv 0 (Array.replicate m true) a w → wpList P l.toArray Q (l.drop m) a w)
    (h1 : ∀ f L a w i, L.size = m → Inv (f + 1) L a w → i < m → i ∈ Region.ready md (l.take m).toArray L → wpOp P l.toArray Q i (Inv f (L.setIfInBounds i true)) a w) :
    ∀ (f : Nat) (L : Array Bool) (a : Act) (w : World), L.size = m → L.count false = f → Shut md l.toArray m L → Inv f L a w →
      wpAny P md l.toArray Q (f + (l.length - m)) (L ++ Array.replicate (l.length - m) false) a w := by
  intro f
  induction f with
  | zero =>
    intro L a w hL hc hS h
    have e : L = Array.replicate m true := by
      apply Array.ext (by simpa using hL)
      intro i h1 h2
      simp only [Array.getElem_replicate]
      cases hv : L[i] with
      | true => rfl
      | false => exact absurd (hv ▸ Array.getElem_mem h1) (Array.count_eq_zero.1 hc)
    subst e
    rw [Nat.zero_add]
    have hd : (l.drop m).length = l.length - m := by simp
    have := wpAny_of_seq (P := P) (md := md) (ops := l.toArray) (Q' := Q) (l.drop m) m (Array.replicate m true ++ Array.replicate (l.length - m) false) a w (fun j => by simp [List.getElem?_drop]) (by rw [hd]; exact hs) (h0 a w h)
    rwa [hd] at this
  | succ f ih =>
    intro L a w hL hc hS h
    rw [show f + 1 + (l.length - m) = (f + (l.length - m)) + 1 by omega]
    have hex : ∃ i, L.getD i true = false := by
      have : 0 < L.count false := by omega
      obtain ⟨i, h1, h2⟩ := Array.mem_iff_getElem.1 (Array.count_pos_iff.1 this)
      exact ⟨i, by simp [h1, h2]⟩
    obtain ⟨u, hu⟩ := hex
    obtain ⟨k, hk⟩ := ready_some (md := md) hb hn L hL u hu
    have hkn : k < m := by
      obtain ⟨h1, o, ho, _⟩ := mem_ready.1 hk
      have := (Array.getElem?_eq_some_iff.1 ho).1
      simp at this
      omega
    have back : k ∈ Region.ready md l.toArray (L ++ Array.replicate (l.length - m) false) := by
      obtain ⟨h1, o, ho, h2⟩ := mem_ready.1 hk
      rw [head_get k hkn] at ho
      refine mem_ready.2 ⟨by rw [getD_left _ _ _ _ (by omega)]; exact h1, o, ho, fun e he hbd => ?_⟩
      have hlt := (back_spec hb hkn (by simpa using ho)).1 e he hbd
      rw [getD_left _ _ _ _ (by omega)]
      exact h2 e he hbd
    have count : ∀ i, i < m → L.getD i true = false → (L.setIfInBounds i true).count false = f := by
      intro i hi hun
      have hiL : i < L.size := by omega
      have hLi : L[i] = false := by simpa [hiL] using hun
      rw [Array.setIfInBounds_def, dif_pos hiL, Array.count_set]
      simp [hLi, hc]
    have shut : ∀ i, i < m → i ∈ Region.ready md (l.take m).toArray L → Shut md l.toArray m (L.setIfInBounds i true) := by
      intro i hin hr j k hj hlj hwt
      by_cases e : i = j
      · subst e
        obtain ⟨_, o, ho, h2⟩ := mem_ready.1 hr
        obtain ⟨o', ho', e, he, hbd, hon⟩ := Region.waitsFor_spec hwt
        rw [head_get i hin] at ho
        have : o' = o := Option.some.inj (ho'.symm.trans ho)
        subst this
        have h3 := h2 e he hbd
        rw [hon] at h3
        exact getD_set _ _ _ h3
      · exact getD_set _ _ _ (hS j k hj (getD_unset _ _ _ e hlj) hwt)
    cases hl : lateB l k with
    | true =>
      obtain ⟨o, v, ho, hy, hi⟩ := h2 f L a w k hL h hkn hl hk
      refine wpAny_first (P := P) (md := md) (ops := l.toArray) (i := k) (oi := o) (v := v) (by simpa using ho) (fun j oj cs b hj => Region.noSelect_spec hsel j oj cs b hj) (fun c a' w' h' => hQ c a' _ _ w' h')
        (f + (l.length - m)) (L ++ Array.replicate (l.length - m) false) a w (fun j oj hoj hne hun hno => free_spec hfree hkn hl ho j oj (by simpa using hoj) hne hno (by
          cases hwt : Region.waitsFor md l.toArray k j with
          | false => rfl
          | true =>
            obtain ⟨o', ho', e, he, hbd, hon⟩ := Region.waitsFor_spec hwt
            obtain ⟨_, o2, ho2, hall⟩ := mem_ready.1 back
            obtain rfl : o' = o2 := Option.some.inj (ho'.symm.trans ho2)
            have h7 := hall e he hbd
            rw [hon, getD_both hun] at h7
            cases h7)) back hy ?_
      rw [set_left _ _ _ (by omega)]
      exact ih _ _ w (by simpa using hL) (count k hkn (mem_ready.1 hk).1) (shut k hkn hk) hi
    | false =>
      have part : ∀ i, i ∈ Region.ready md l.toArray (L ++ Array.replicate (l.length - m) false) → i < m ∧ i ∈ Region.ready md (l.take m).toArray L := by
        intro i hi
        obtain ⟨h1, o, ho, h2⟩ := mem_ready.1 hi
        have hil : i < l.length := by
          have := (Array.getElem?_eq_some_iff.1 ho).1
          simpa using this
        by_cases hin : i < m
        · refine ⟨hin, mem_ready.2 ⟨by rw [getD_left _ _ _ _ (by omega)] at h1; exact h1, o, by rw [head_get i hin]; exact ho, fun e he hbd => ?_⟩⟩
          exact getD_app _ _ _ (h2 e he hbd)
        · have h3 := deep_listed hS 2 i k (fun j hj => by
            obtain ⟨o', ho', e, he, hbd, hon⟩ := Region.waitsFor_spec hj
            have : o' = o := Option.some.inj (ho'.symm.trans ho)
            subst this
            have h3 := h2 e he hbd
            rw [hon] at h3
            exact getD_app _ _ _ h3) (await_spec hw (by omega) hil hkn hl)
          rw [getD_both (mem_ready.1 hk).1] at h3
          cases h3
      refine ⟨fun h0 => (by rw [h0] at back; cases back), fun i hi => ?_⟩
      obtain ⟨hin, hr⟩ := part i hi
      refine wpOp_mono (fun a' w' h' => ?_) (h1 f L a w i hL h hin hr)
      rw [set_left _ _ _ (by omega)]
      exact ih _ a' w' (by simpa using hL) (count i hin (mem_ready.1 hr).1) (shut i hin hr) h'

variable {ops : Array Oper} {C : World → Prop}

theorem put_get (a : Act) (x : Option Tmp) (v : Value) (d : Nat) (h : x ≠ some d) : (a.put x v).tmps[d]? = a.tmps[d]? := by
  cases x with
  | none => rfl
  | some k =>
    have : k ≠ d := fun e => h (by rw [e])
    simp [Act.put, this]

theorem put_got (a : Act) (v : Value) (d : Nat) (h : d < a.tmps.size) : (a.put (some d) v).tmps[d]? = some v := by
  simp [Act.put, h]

theorem put_size (a : Act) (x : Option Tmp) (v : Value) : (a.put x v).tmps.size = a.tmps.size := by
  cases x <;> simp [Act.put]

theorem kept {aF : Act} : ∀ (f : Nat) (L : Array Bool) (a : Act) (d : Nat), (∀ (j : Nat) (o : Oper), ops[j]? = some o → L.getD j true = false → o.dst ≠ some d) →
    wpAnyQ P md ops C (fun a' => a' = aF) f L a → aF.tmps[d]? = a.tmps[d]?
  | 0, _, _, _, _, h => by rw [← h.2]
  | f + 1, L, a, d, hd, h => by
    cases hr : Region.ready md ops L with
    | nil => rw [← h.1 hr]
    | cons i r =>
      have hi : i ∈ Region.ready md ops L := by rw [hr]; exact List.mem_cons_self
      obtain ⟨hun, o, ho, _⟩ := mem_ready.1 hi
      obtain ⟨v, _, hk⟩ := yieldsIn_of_qOp ho (h.2 i hi)
      have hne := hd i o ho hun
      rw [kept f _ _ d (fun j o' ho' hj => ?_) hk, put_get _ _ _ _ hne]
      by_cases e : i = j
      · subst e; exact (Option.some.inj (ho.symm.trans ho')) ▸ hne
      · refine hd j o' ho' ?_
        rwa [getD_set_ne true e] at hj

theorem over_op {i d : Nat} {v : Value} {K K' : Act → Prop} {a : Act} (hsel : Region.noSelect ops = true)
    (hno : ∀ (j : Nat) (o : Oper), ops[j]? = some o → d ∉ o.looksAt ops ∧ o.dst ≠ some d) (hK : ∀ a', K a' → K' (a'.put (some d) v)) (h : qOp P ops C i K a) : qOp P ops C i K' (a.put (some d) v) := by
  unfold qOp at *
  cases ho : ops[i]? with
  | none => simp only [ho] at h ⊢; exact hK _ h
  | some o =>
    obtain ⟨n1, n2⟩ := hno i o ho
    simp only [ho] at h ⊢
    rw [wanted_put o a (some d) v (fun d' e => by cases e; exact n1)]
    split
    · rename_i hw
      simp only [hw, if_true] at h
      obtain ⟨u, hu, hn⟩ := h
      refine ⟨u, fun w hw' => ?_, ?_⟩
      · have := hu w hw'
        unfold Oper.quietAt at *
        rwa [execOp_put (ops := ops) o (fun cs b => Region.noSelect_spec hsel i o cs b ho) a (some d) v (fun d' e => by cases e; exact n1)]
      · rw [Act.put_comm a v u (fun d' e => by cases e; exact n2)]
        exact hK _ hn
    · rename_i hw
      simp only [hw] at h
      rw [Act.put_comm a v undef (fun d' e => by cases e; exact n2)]
      exact hK _ h

theorem over {d : Nat} {v : Value} {Q : Act → Prop} (hsel : Region.noSelect ops = true) (hno : ∀ (j : Nat) (o : Oper), ops[j]? = some o → d ∉ o.looksAt ops ∧ o.dst ≠ some d) :
    ∀ (f : Nat) (L : Array Bool) (a : Act), wpAnyQ P md ops C Q f L a → wpAnyQ P md ops C (fun a' => ∃ a0, Q a0 ∧ a' = a0.put (some d) v) f L (a.put (some d) v)
  | 0, _, a, h => ⟨h.1, a, h.2, rfl⟩
  | f + 1, _, a, h => ⟨fun h0 => ⟨a, h.1 h0, rfl⟩, fun i hi => over_op hsel hno (fun a' h' => over hsel hno f _ a' h') (h.2 i hi)⟩

def dstB (ops : Array Oper) (N d : Nat) : Bool :=
  (List.range ops.size).all fun j => match ops[j]? with
    | some o => !(o.looksAt ops).contains d && o.dst != some d && (match o.dst with | some k => decide (k < N) | none => true) &&
        (List.range ops.size).all fun i => i == j || (match ops[i]? with | some o' => o'.dst.isNone || o'.dst != o.dst | none => true)
    | none => true

theorem dst_spec {ops : Array Oper} {N d : Nat} (h : dstB ops N d = true) {j : Nat} {o : Oper} (ho : ops[j]? = some o) :
    d ∉ o.looksAt ops ∧ o.dst ≠ some d ∧ (∀ k, o.dst = some k → k < N) ∧ ∀ i o', ops[i]? = some o' → i ≠ j → ∀ k, o.dst = some k → o'.dst ≠ some k := by
  have hj : j < ops.size := (Array.getElem?_eq_some_iff.1 ho).1
  have h1 := List.all_eq_true.1 h j (List.mem_range.2 hj)
  simp only [ho, Bool.and_eq_true] at h1
  obtain ⟨⟨⟨a1, a2⟩, a3⟩, a4⟩ := h1
  refine ⟨by simpa using a1, by simpa using a2, fun k hk => by rw [hk] at a3; simpa using a3, fun i o' ho' hij k hk => ?_⟩
  have hi : i < ops.size := (Array.getElem?_eq_some_iff.1 ho').1
  have h2 := List.all_eq_true.1 a4 i (List.mem_range.2 hi)
  simp only [ho'] at h2
  intro e
  simp [hij, hk, e] at h2

def freshB (l : List Oper) (n N d : Nat) : Bool :=
  decide (n < l.length) && Region.lexB .any (l.take n).toArray && backB .any l n && backB .any l (n + 1) && awaitB .any l (n + 1) && freeB .any l (n + 1) && Region.noSelect l.toArray &&
    Region.seqB .any l.toArray (l.length - (n + 1)) (n + 1) (Array.replicate (n + 1) true ++ Array.replicate (l.length - (n + 1)) false) &&
    dstB (l.take n).toArray N d && (match l[n]? with | some al => al.guard.isNone && al.dst == some d | none => false)

theorem push_getD (L : Array Bool) (b : Bool) (j : Nat) (x : Bool) (h : j < L.size) : (L.push b).getD j x = L.getD j x := by
  simp only [Array.getD_eq_getD_getElem?, Array.getElem?_push]
  rw [if_neg (by omega)]

theorem push_set (L : Array Bool) (b : Bool) (j : Nat) (h : j < L.size) : (L.push b).setIfInBounds j true = (L.setIfInBounds j true).push b := by
  apply Array.ext_getElem?
  intro k
  simp only [Array.getElem?_setIfInBounds, Array.getElem?_push, Array.size_push, Array.size_setIfInBounds]
  by_cases hk : j = k
  · subst hk
    have h1 : j ≠ L.size := by omega
    have h2 : j < L.size + 1 := by omega
    simp [h, h1, h2]
  · simp [hk]

theorem push_set_last (L : Array Bool) (b : Bool) : (L.push b).setIfInBounds L.size true = L.push true := by
  apply Array.ext_getElem?
  intro k
  simp only [Array.getElem?_setIfInBounds, Array.getElem?_push, Array.size_push]
  by_cases hk : L.size = k
  · subst hk; simp
  · have : ¬ k = L.size := fun e => hk e.symm
    simp [hk, this]

theorem ready_head (hb : backB md l n = true) (L : Array Bool) (hL : L.size = n) (b : Bool) {i : Nat} (hi : i < n) (h : i ∈ Region.ready md (l.take (n + 1)).toArray (L.push b)) : i ∈ Region.ready md (l.take n).toArray L := by
  obtain ⟨h1, o, ho, h2⟩ := mem_ready.1 h
  rw [head_get i (by omega)] at ho
  refine mem_ready.2 ⟨by rwa [push_getD _ _ _ _ (by omega)] at h1, o, by rw [head_get i hi]; exact ho, fun e he hbd => ?_⟩
  have hlt := (back_spec hb hi (by simpa using ho)).1 e he hbd
  have := h2 e he hbd
  rwa [push_getD _ _ _ _ (by omega)] at this

theorem region_fresh {id : Nat} {Q : Exit → Act → World → Prop} {a : Act} {w : World} {al : Oper} (n d : Nat) (o : Obj) (hm : P.follows .mixedOrders = true) (hB : freshB l n a.tmps.size d = true) (hal1 : l[n]? = some al) (hQ : ∀ c a x v w, Q (.panic c) (a.put x v) w → Q (.panic c) a w)
    (hal : ∀ (a : Act) (w : World), (execOp a.eval al).run P w = .ok (.value (.pointer (some ⟨w.heap.size, 0, none⟩))) (w.alloc o))
    (h : ∃ aF : Act, (∀ x0, wpQuiet P (l.take n).toArray (fun w' => ∃ x, w' = plus (plus w x0) x) (fun a' => a' = aF) (l.take n) a) ∧
      ∀ x1 x2, wpList P l.toArray Q (l.drop (n + 1)) (aF.put (some d) (.pointer (some ⟨w.heap.size + (blocks x1).size, 0, none⟩))) (plus ((plus w x1).alloc o) x2)) :
    (Code.region id l.toArray true).wp P Q a w := by
  obtain ⟨aF, h1, h2⟩ := h
  simp only [freshB, Bool.and_eq_true, decide_eq_true_eq] at hB
  obtain ⟨⟨⟨⟨⟨⟨⟨⟨⟨hn, hlex⟩, hbn⟩, hb⟩, hw⟩, hfree⟩, hsel⟩, hs⟩, hd⟩, halloc⟩ := hB
  simp only [Region.lexB, Bool.and_eq_true] at hlex
  have hsz : (l.take n).toArray.size = n := by simp; omega
  have hlen : (l.take n).length = n := by simp; omega
  have hno : ∀ (j : Nat) (oj : Oper), (l.take n).toArray[j]? = some oj → d ∉ oj.looksAt (l.take n).toArray ∧ oj.dst ≠ some d := fun j oj hj => ⟨(dst_spec hd hj).1, (dst_spec hd hj).2.1⟩
  obtain ⟨halg, hald⟩ : al.guard = none ∧ al.dst = some d := by simpa [hal1] using halloc
  generalize hN : a.tmps.size = N at hd
  let H := (l.take n).toArray
  let Inv : Nat → Array Bool → Act → World → Prop := fun f L a w' =>
    (∃ LH g, f = g + 1 ∧ L = LH.push false ∧ LH.size = n ∧ (∃ x, w' = plus w x) ∧ a.tmps.size = N ∧ ∀ x0, wpAnyQ P .any H (fun w' => ∃ x, w' = plus (plus w x0) x) (fun a' => a' = aF) g LH a) ∨
    (∃ LH x1, L = LH.push true ∧ LH.size = n ∧ (∃ x, w' = plus ((plus w x1).alloc o) x) ∧
      wpAnyQ P .any H (fun w' => ∃ x, w' = plus ((plus w x1).alloc o) x) (fun a' => ∃ a0, a0 = aF ∧ a' = a0.put (some d) (.pointer (some ⟨w.heap.size + (blocks x1).size, 0, none⟩))) f LH a)
  -- one of the first n: its value is one, whatever has grown
  have one : ∀ (LH : Array Bool) (g : Nat) (a' : Act) (i : Nat), LH.size = n → a'.tmps.size = N → (∀ x0, wpAnyQ P .any H (fun w' => ∃ x, w' = plus (plus w x0) x) (fun a' => a' = aF) g LH a') → i ∈ Region.ready .any H LH →
      ∃ g' oi v, g = g' + 1 ∧ H[i]? = some oi ∧ YieldsIn P H (fun w' => ∃ x, w' = plus w x) oi v a' ∧ ∀ x0, wpAnyQ P .any H (fun w' => ∃ x, w' = plus (plus w x0) x) (fun a' => a' = aF) g' (LH.setIfInBounds i true) (a'.put oi.dst v) := by
    intro LH g a' i hLH hsa hq hr'
    obtain ⟨hun, oi, hoi, _⟩ := mem_ready.1 hr'
    cases g with
    | zero =>
      have := (hq []).1
      rw [this] at hr'
      cases hr'
    | succ g =>
      have hg0 := fun x0 => (hq x0).2 i hr'
      have e0 : plus w [⟨#[], w.drawn⟩] = w := by simp [plus, blocks, draws]
      obtain ⟨v, hy, hk⟩ := yieldsIn_of_qOp hoi (hg0 [⟨#[], w.drawn⟩])
      rw [e0] at hy
      refine ⟨g, oi, v, rfl, hoi, hy, fun x0 => ?_⟩
      obtain ⟨v0, _, hk0⟩ := yieldsIn_of_qOp hoi (hg0 x0)
      cases hdd : oi.dst with
      | none => rw [hdd] at hk0; exact hk0
      | some k =>
        have hb1 := (dst_spec hd hoi).2.2.1 k hdd
        have fresh : ∀ (j : Nat) (oj : Oper), H[j]? = some oj → (LH.setIfInBounds i true).getD j true = false → oj.dst ≠ some k := by
          intro j oj hoj hj
          have hne : j ≠ i := by
            intro e
            subst e
            have : j < LH.size := by
              have h6 := (Array.getElem?_eq_some_iff.1 hoj).1
              rw [hsz] at h6
              omega
            simp [this] at hj
          exact (dst_spec hd hoi).2.2.2 j oj hoj hne k hdd
        have e1 := kept _ _ _ k fresh hk
        have e2 := kept _ _ _ k fresh hk0
        rw [hdd, put_got _ _ _ (Nat.lt_of_lt_of_eq hb1 hsa.symm)] at e1 e2
        rw [e1] at e2
        rw [Option.some.inj e2]
        rw [hdd] at hk0
        exact hk0
  have pure : ∀ (C : World → Prop) (i : Nat) (oi : Oper) (v : Value) (a' : Act) (w0 : World), i < n → lateB l i = true → H[i]? = some oi → C w0 → YieldsIn P H C oi v a' → l[i]? = some oi ∧ Yields P l.toArray oi v a' := by
    intro C i oi v a' w0 hin hl hoi hC hy
    obtain ⟨o', t, k, ho', hg, hop⟩ := late_spec hl
    have hoi' : l.toArray[i]? = some oi := by rw [← head_get i hin]; exact hoi
    have hoi2 : l[i]? = some oi := by simpa using hoi'
    obtain rfl : o' = oi := Option.some.inj (ho'.symm.trans hoi2)
    refine ⟨hoi2, .inl ⟨by simp [Region.wanted, hg], ?_⟩⟩
    rcases hy with ⟨_, hy⟩ | ⟨hy, _⟩
    · exact extract_pure hop (hy w0 hC)
    · simp [Region.wanted, hg] at hy
  have last : lateB l n = false := by
    cases h : lateB l n with
    | false => rfl
    | true =>
      obtain ⟨o', t, k, ho', _, hop⟩ := late_spec h
      obtain rfl : o' = al := Option.some.inj (ho'.symm.trans hal1)
      have h5 := hal a w
      unfold execOp at h5
      simp only [hop] at h5
      unfold Instr.extract at h5
      have hne : w.alloc o ≠ w := fun e => by have := congrArg (fun w => w.heap.size) e; simp at this
      cases ht : a.eval t <;> simp [ht, stuck] at h5
      rename_i vs
      cases hv : vs[k]? <;> simp [hv] at h5
      exact absurd h5.2.symm hne
  have key := tail_inv (P := P) (md := .any) (l := l) (m := n + 1) (Q := Q) Inv hb hw (by omega) hfree hsel hQ
    (fun f L a' w' i hL h hi hl hr => by
      have hin : i < n := by
        rcases Nat.lt_or_ge i n with h | h
        · exact h
        · obtain rfl : i = n := by omega
          rw [last] at hl
          cases hl
      rcases h with ⟨LH, g, hg, rfl, hLH, ⟨x, rfl⟩, hsa, hq⟩ | ⟨LH, x1, rfl, hLH, ⟨x, rfl⟩, hq⟩
      · obtain rfl : g = f := by omega
        have hr' := ready_head (md := .any) hbn LH hLH false hin hr
        obtain ⟨g', oi, v, rfl, hoi, hy, same⟩ := one LH g a' i hLH hsa hq hr'
        obtain ⟨p1, p2⟩ := pure _ i oi v a' (plus w x) hin hl hoi ⟨x, rfl⟩ hy
        exact ⟨oi, v, p1, p2, .inl ⟨LH.setIfInBounds i true, g', rfl, push_set _ _ _ (by omega), by simpa using hLH, ⟨x, rfl⟩, by rw [put_size]; exact hsa, same⟩⟩
      · have hr' := ready_head (md := .any) hbn LH hLH true hin hr
        obtain ⟨_, oi, hoi, _⟩ := mem_ready.1 hr'
        obtain ⟨v, hy, hk⟩ := yieldsIn_of_qOp hoi (hq.2 i hr')
        obtain ⟨p1, p2⟩ := pure _ i oi v a' _ hin hl hoi ⟨x, rfl⟩ hy
        exact ⟨oi, v, p1, p2, .inr ⟨LH.setIfInBounds i true, x1, push_set _ _ _ (by omega), by simpa using hLH, ⟨x, rfl⟩, hk⟩⟩)
    hs
    (fun a' w' h => by
      rcases h with ⟨LH, g, hg, _⟩ | ⟨LH, x1, _, _, ⟨x, rfl⟩, hq⟩
      · cases hg
      · obtain ⟨_, a0, rfl, rfl⟩ := hq
        exact h2 x1 x)
    (fun f L a' w' i hL h hi hr => by
      rcases h with ⟨LH, g, hg, rfl, hLH, ⟨x, rfl⟩, hsa, hq⟩ | ⟨LH, x1, rfl, hLH, ⟨x, rfl⟩, hq⟩
      · obtain rfl : g = f := by omega
        by_cases hin : i < n
        · have hr' := ready_head (md := .any) hbn LH hLH false hin hr
          obtain ⟨g', oi, v, rfl, hoi, hy, same⟩ := one LH g a' i hLH hsa hq hr'
          have hop : qOp P H (fun w' => ∃ x, w' = plus w x) i (fun a'' => a'' = a'.put oi.dst v) a' := hy.qOp hoi rfl
          refine wpOp_of_qOp (C := fun w' => ∃ x, w' = plus w x) ⟨x, rfl⟩ (fun a'' w'' hC hk' => ?_) (qOp_head hbn hin hop)
          subst hk'
          exact .inl ⟨LH.setIfInBounds i true, g', rfl, push_set _ _ _ (by omega), by simpa using hLH, hC, by rw [put_size]; exact hsa, same⟩
        · -- the variable is made
          obtain rfl : i = n := by omega
          unfold wpOp
          have e1 : l.toArray[i]? = some al := by simpa using hal1
          simp only [e1]
          have hwant : Region.wanted al (yielded l.toArray a'.tmps) = true := by simp [Region.wanted, halg]
          rw [if_pos hwant]
          refine .inl ?_
          unfold Oper.wp
          rw [hal a' (plus w x)]
          simp only [Oper.upon]
          refine .inr ⟨LH, x, by rw [← hLH]; exact push_set_last _ _, hLH, ex_refl _, ?_⟩
          rw [hald, plus_size]
          have hb0 : ∃ x0, (plus w x).alloc o = plus w x0 := ex_alloc ⟨x, rfl⟩
          obtain ⟨x0, hx0⟩ := hb0
          have := hq x0
          rw [← hx0] at this
          exact over hlex.1 hno _ _ _ this
      · have hin : i < n := by
          rcases Nat.lt_or_ge i n with h | h
          · exact h
          · obtain rfl : i = n := by omega
            have := (mem_ready.1 hr).1
            simp [← hLH] at this
        have hr' := ready_head (md := .any) hbn LH hLH true hin hr
        refine wpOp_of_qOp (C := fun w' => ∃ x, w' = plus ((plus w x1).alloc o) x) ⟨x, rfl⟩ (fun a'' w'' hC hk' => ?_) (qOp_head hbn hin (hq.2 i hr'))
        exact .inr ⟨LH.setIfInBounds i true, x1, push_set _ _ _ (by omega), by simpa using hLH, hC, hk'⟩)
  refine wp_region_any hm ?_
  have start : Inv (n + 1) (Array.replicate (n + 1) false) a { w with drawn := w.drawn + 1 } := by
    refine .inl ⟨Array.replicate n false, n, rfl, by rw [Array.replicate_succ], by simp, ⟨[⟨#[], w.drawn + 1⟩], by simp [plus, blocks, draws]⟩, hN, fun x0 => ?_⟩
    have := wpAnyQ_lex (P := P) (md := .any) (C := fun w' => ∃ x, w' = plus (plus w x0) x) (Q := fun a' => a' = aF) hlex.1 (l.take n) 0
      (Array.replicate n false) a (by simp) (by rw [hlen]; have := hlex.2; rwa [hsz] at this) (h1 x0)
    rwa [hlen] at this
  have h3 := key (n + 1) (Array.replicate (n + 1) false) a { w with drawn := w.drawn + 1 } (by simp) (by simp) (fun j i _ hj _ => by by_cases h : j < n + 1 <;> simp [h] at hj) start
  have e1 : n + 1 + (l.length - (n + 1)) = l.toArray.size := by simp; omega
  have e2 : Array.replicate (n + 1) false ++ Array.replicate (l.length - (n + 1)) false = Array.replicate l.toArray.size false := by
    rw [Array.replicate_append_replicate, e1]
  rw [e1, e2] at h3
  exact h3

end

end

section


open Go.RowKit Go.ChangeShapes Go.WideShapes Go.ChangeAt

set_option linter.unusedSimpArgs false

set_option linter.unusedVariables false

attribute [local go_sem] plus_size plus_drew dn_set dn_alloc dn_plus plus_dn cell_plus frozen_plus set_plus cell_alloc frozen_alloc set_alloc

theorem wrap_leM {n : Int} (h : 0 ≤ n ∧ n ≤ 9223372036854775807) : IntKind.i64.wrap n = n := by
  simp [IntKind.wrap, IntKind.bits, IntKind.signed]
  omega

theorem ex_moreM {T : World} {x : List More} {d : Nat} : ∃ y, plus T [⟨blocks x, d⟩] = plus (plus T x) y := ⟨[⟨#[], d⟩], by simp [plus, blocks, draws]⟩
theorem snM {w w' : World} (h : ∃ y, w' = plus w y := by with_reducible repeat (first | exact ex_refl _ | exact ex_moreM | apply ex_alloc | apply ex_plus | apply ex_drew | apply ex_drewN | (apply ex_on; assumption))) : ∃ y, w' = plus w y := h
theorem skM {w w' : World} (h : ∃ y, w' = plus w y := by with_reducible repeat (first | exact ex_refl _ | exact ex_moreM | apply ex_alloc | apply ex_plus | apply ex_drew | apply ex_drewN)) : ∃ y, w' = plus w y := h

theorem info_partsM {P : Program} {e : TypeId} {z : Value} {c b : Nat} (h : (P.info? e).map (fun i => (i.zero, i.size, i.bytes)) = some (some z, c, b)) (hc : z.cells.size = c) : ∃ i z, P.info? e = some i ∧ i.zero = some z ∧ i.size = c ∧ i.bytes = b ∧ z.cells.size = c := by
  obtain ⟨i0, hi, hz0, hz1, hz2⟩ := info_parts h
  exact ⟨i0, z, hi, hz0, hz1, hz2, hc⟩

theorem kinT : Kin Tryz.prog 219 40 3 24 := ⟨Tryz.underlying219, info_partsM (z := .agg #[.int .i64 0, .int .i64 0, .int .i64 0]) (by kernel_rfl) rfl, by decide⟩

theorem kinI : Kin Tryz.prog 47 3 1 8 := ⟨Tryz.underlying47, info_partsM (z := .int .i64 0) (by kernel_rfl) rfl, by decide⟩

theorem kinV : Kin Tryz.prog 57 43 3 24 := ⟨Tryz.underlying57, info_partsM (z := .agg #[.int .i64 0, .int .i64 0, .int .i64 0]) (by kernel_rfl) rfl, by decide⟩

theorem kin2 : Kin Tryz.prog 58 137 2 16 := ⟨Tryz.underlying58, info_partsM (z := .agg #[.int .i64 0, .int .i64 0]) (by kernel_rfl) rfl, by decide⟩

theorem kinP : Kin Tryz.prog 59 131 2 32 := ⟨Tryz.underlying59, info_partsM (z := .agg #[.int .u8 0, .slice none 0 0]) (by kernel_rfl) rfl, by decide⟩

theorem arr_40 (n : Nat) (a0 a1 a2 b0 b1 b2 : Int) (w : World) : (Op.equalIn (n + 1 + 1) 40 (.agg #[.int .i64 a0, .int .i64 a1, .int .i64 a2]) (.agg #[.int .i64 b0, .int .i64 b1, .int .i64 b2])).run Tryz.prog w = .ok (a0 == b0 && (a1 == b1 && (a2 == b2))) w := by
  have u3 := Tryz.underlying3
  have a3 := Tryz.isAgg3
  have z3 := Tryz.sizeOf3
  rw [Op.equalIn]
  simp only [Sem.run_bind, run_underlying Tryz.underlying40, Result.andThen_ok]
  simp only [Std.Legacy.Range.forIn_eq_forIn_range', Std.Legacy.Range.size, Nat.sub_zero, Nat.add_sub_cancel, Nat.div_one, List.range'_succ, List.range'_zero, List.forIn_cons, List.forIn_nil]
  go_simp
  by_cases h0 : a0 = b0 <;> by_cases h1 : a1 = b1 <;> by_cases h2 : a2 = b2 <;> simp [h0, h1, h2]

theorem eqarr_40 (a0 a1 a2 b0 b1 b2 : Int) (w : World) : (binOp .eql 40 (.agg #[.int .i64 a0, .int .i64 a1, .int .i64 a2]) (.agg #[.int .i64 b0, .int .i64 b1, .int .i64 b2])).run Tryz.prog w = .ok (.bool (a0 == b0 && (a1 == b1 && (a2 == b2)))) w := by
  simp only [binOp]
  simp [Op.equal, Op.maxDepth, arr_40 9998]

theorem larr_40 (a0 a1 a2 b0 b1 b2 : Int) (w : World) : (Op.equalIn 10000 40 (.agg #[.int .i64 a0, .int .i64 a1, .int .i64 a2]) (.agg #[.int .i64 b0, .int .i64 b1, .int .i64 b2])).run Tryz.prog w = .ok (a0 == b0 && (a1 == b1 && (a2 == b2))) w := arr_40 9998 a0 a1 a2 b0 b1 b2 w

theorem nearr_40 (a0 a1 a2 b0 b1 b2 : Int) (w : World) : (binOp .neq 40 (.agg #[.int .i64 a0, .int .i64 a1, .int .i64 a2]) (.agg #[.int .i64 b0, .int .i64 b1, .int .i64 b2])).run Tryz.prog w = .ok (.bool (!(a0 == b0 && (a1 == b1 && (a2 == b2))))) w := by
  simp only [binOp]
  simp [Op.equal, Op.maxDepth, arr_40 9998]

theorem arr_137 (n : Nat) (a0 a1 b0 b1 : Int) (w : World) : (Op.equalIn (n + 1 + 1) 137 (.agg #[.int .i64 a0, .int .i64 a1]) (.agg #[.int .i64 b0, .int .i64 b1])).run Tryz.prog w = .ok (a0 == b0 && (a1 == b1)) w := by
  have u3 := Tryz.underlying3
  have a3 := Tryz.isAgg3
  have z3 := Tryz.sizeOf3
  rw [Op.equalIn]
  simp only [Sem.run_bind, run_underlying Tryz.underlying137, Result.andThen_ok]
  simp only [Std.Legacy.Range.forIn_eq_forIn_range', Std.Legacy.Range.size, Nat.sub_zero, Nat.add_sub_cancel, Nat.div_one, List.range'_succ, List.range'_zero, List.forIn_cons, List.forIn_nil]
  go_simp
  by_cases h0 : a0 = b0 <;> by_cases h1 : a1 = b1 <;> simp [h0, h1]

theorem eqarr_137 (a0 a1 b0 b1 : Int) (w : World) : (binOp .eql 137 (.agg #[.int .i64 a0, .int .i64 a1]) (.agg #[.int .i64 b0, .int .i64 b1])).run Tryz.prog w = .ok (.bool (a0 == b0 && (a1 == b1))) w := by
  simp only [binOp]
  simp [Op.equal, Op.maxDepth, arr_137 9998]

theorem larr_137 (a0 a1 b0 b1 : Int) (w : World) : (Op.equalIn 10000 137 (.agg #[.int .i64 a0, .int .i64 a1]) (.agg #[.int .i64 b0, .int .i64 b1])).run Tryz.prog w = .ok (a0 == b0 && (a1 == b1)) w := arr_137 9998 a0 a1 b0 b1 w

theorem nearr_137 (a0 a1 b0 b1 : Int) (w : World) : (binOp .neq 137 (.agg #[.int .i64 a0, .int .i64 a1]) (.agg #[.int .i64 b0, .int .i64 b1])).run Tryz.prog w = .ok (.bool (!(a0 == b0 && (a1 == b1)))) w := by
  simp only [binOp]
  simp [Op.equal, Op.maxDepth, arr_137 9998]

theorem isnil_47 (ao : Option Addr) (n cap : Nat) (w : World) : (binOp .eql 47 (.slice ao n cap) (.slice none 0 0)).run Tryz.prog w = .ok (.bool ao.isNone) w := Lib.run_eql_slice_nil w _ _ ao n cap 0 0 Tryz.underlying47

theorem isnil_57 (ao : Option Addr) (n cap : Nat) (w : World) : (binOp .eql 57 (.slice ao n cap) (.slice none 0 0)).run Tryz.prog w = .ok (.bool ao.isNone) w := Lib.run_eql_slice_nil w _ _ ao n cap 0 0 Tryz.underlying57

theorem isnil_58 (ao : Option Addr) (n cap : Nat) (w : World) : (binOp .eql 58 (.slice ao n cap) (.slice none 0 0)).run Tryz.prog w = .ok (.bool ao.isNone) w := Lib.run_eql_slice_nil w _ _ ao n cap 0 0 Tryz.underlying58

theorem isnil_59 (ao : Option Addr) (n cap : Nat) (w : World) : (binOp .eql 59 (.slice ao n cap) (.slice none 0 0)).run Tryz.prog w = .ok (.bool ao.isNone) w := Lib.run_eql_slice_nil w _ _ ao n cap 0 0 Tryz.underlying59

set_option maxHeartbeats 2000000 in
theorem threesOf_calls (ao : Option Addr) (n cap : Nat) (ix : List Int) (w : World) (hl : Lay fI w ao n ix) (hn : n ≤ 10000) :
    Calls Tryz.prog 193 #[.slice ao n cap] w fun e w' => ∃ ao' cap', e = .returned (.slice ao' (n / 3) cap') ∧ (∃ y, w' = plus w y) ∧ Own 40 3 fV w w' ao' (n / 3) cap' (firsts (threeT ix) (n / 3)) := by
  go_enter Tryz.func193, Tryz.ntmps193
  go_wp2
  go_loopw [3, 4] (fun v i wr => ∃ (k : Nat) (ao' : Option Addr) (cap' : Nat), k ≤ n / 3 ∧ i = .int .i64 (3 * k : Nat) ∧ v = .slice ao' k cap' ∧ (∃ y, wr = plus w y) ∧ Own 40 3 fV w wr ao' k cap' (firsts (threeT ix) k)) (fun _ i _ => n - (intOf i).toNat)
  case atStart => exact ⟨0, none, 0, by omega, rfl, rfl, skM, own_nil⟩
  case round =>
    obtain ⟨k, ao', cap', hk, rfl, rfl, ⟨y, rfl⟩, hown⟩ := hrel
    obtain ⟨j, hj⟩ : ∃ j, 3 * k = j := ⟨_, rfl⟩
    rw [hj]
    by_cases hkl : j + 2 < n
    · obtain ⟨g, off, rfl, hg, hcell⟩ := hl.some (by omega)
      have c0 := cellI hl.len hcell (k := j) (by omega)
      have c1 := cellI hl.len hcell (k := j + 1) (by omega)
      have c2 := cellI hl.len hcell (k := j + 2) (by omega)
      have ik0 : (j : Int) < (n : Int) := by omega
      have ik1 : (j : Int) + 1 < (n : Int) := by omega
      have ip1 : (0 : Int) ≤ (j : Int) + 1 := by omega
      have iw1 : IntKind.i64.wrap ((j : Int) + 1) = (j : Int) + 1 := wrap_leM (by omega)
      have it1 : ((j : Int) + 1).toNat = j + 1 := by omega
      have ik2 : (j : Int) + 2 < (n : Int) := by omega
      have ip2 : (0 : Int) ≤ (j : Int) + 2 := by omega
      have iw2 : IntKind.i64.wrap ((j : Int) + 2) = (j : Int) + 2 := wrap_leM (by omega)
      have it2 : ((j : Int) + 2).toNat = j + 2 := by omega
      go_wp2
      go_region_held3 (fun w' => w'.cell? ⟨g, off + j, none⟩ = some (.int .i64 (nth 0 ix j)) ∧ w'.cell? ⟨g, off + (j + 1), none⟩ = some (.int .i64 (nth 0 ix (j + 1))) ∧ w'.cell? ⟨g, off + (j + 2), none⟩ = some (.int .i64 (nth 0 ix (j + 2)))) (first | (simp [go_sem, ↓IntWalk.iteOmega, c0, c1, c2]; done)) (first | (refine step_append_lay (T := w) rfl _ _ rfl kinT fV_c fV_1 rfl skM (hown.ex skM) rfl (l2 := [threeT ix k]) ⟨rfl, .inr ⟨_, 0, rfl, by simp [go_sem]; try omega, fun jj u hu => by match jj, hu with | 0, hu => (simp [fV, threeT, hj] at hu; subst hu; simp [go_sem, ↓IntWalk.iteOmega]) | 1, hu => (simp [fV, threeT, hj] at hu; subst hu; simp [go_sem, ↓IntWalk.iteOmega]) | 2, hu => (simp [fV, threeT, hj] at hu; subst hu; simp [go_sem, ↓IntWalk.iteOmega]) | jj + 3, hu => simp [fV] at hu⟩⟩ (by omega) (by decide) ?_; intro ao' cap' y' hown'))
      go_wp2
      go_roundw
      case rel => exact ⟨k + 1, ao', cap', by omega, by subst hj; go_num, by subst hj; rfl, ⟨y', rfl⟩, by subst hj; rw [← firsts_succ]; exact hown'⟩
      case measure => simp [intOf]; omega
    · have ik : ¬ (j : Int) + 2 < (n : Int) := by omega
      obtain rfl : k = n / 3 := by omega
      go_wp2
      go_ret
      exact ⟨ao', cap', rfl, ⟨y, rfl⟩, hown⟩

set_option maxHeartbeats 2000000 in
theorem fanOf_calls (ao : Option Addr) (n cap : Nat) (ix : List Int) (w : World) (hl : Lay fI w ao n ix) (hn : n ≤ 10000) :
    Calls Tryz.prog 192 #[.slice ao n cap] w fun e w' => ∃ ao' cap', e = .returned (.slice ao' (n - 2) cap') ∧ (∃ y, w' = plus w y) ∧ Own 40 3 fV w w' ao' (n - 2) cap' (firsts (fanT ix) (n - 2)) := by
  go_enter Tryz.func192, Tryz.ntmps192
  go_wp2
  go_loopw [3, 4] (fun v i wr => ∃ (k : Nat) (ao' : Option Addr) (cap' : Nat), k ≤ n - 2 ∧ i = .int .i64 (k + 1 : Nat) ∧ v = .slice ao' k cap' ∧ (∃ y, wr = plus w y) ∧ Own 40 3 fV w wr ao' k cap' (firsts (fanT ix) k)) (fun _ i _ => n - (intOf i).toNat)
  case atStart => exact ⟨0, none, 0, by omega, rfl, rfl, skM, own_nil⟩
  case round =>
    obtain ⟨k, ao', cap', hk, rfl, rfl, ⟨y, rfl⟩, hown⟩ := hrel
    obtain ⟨j, hj⟩ : ∃ j, k + 1 = j := ⟨_, rfl⟩
    rw [hj]
    by_cases hkl : j + 1 < n
    · obtain ⟨g, off, rfl, hg, hcell⟩ := hl.some (by omega)
      have z0 := cellI hl.len hcell (k := 0) (by omega)
      rw [Nat.add_zero] at z0
      have c0 := cellI hl.len hcell (k := j) (by omega)
      have c1 := cellI hl.len hcell (k := j + 1) (by omega)
      have iz : (0 : Int) < (n : Int) := by omega
      have iz1 : 0 < n := by omega
      have iz2 : ¬ n = 0 := by omega
      have iz3 : ¬ (n : Int) ≤ 0 := by omega
      have ik0 : (j : Int) < (n : Int) := by omega
      have ik1 : (j : Int) + 1 < (n : Int) := by omega
      have ip1 : (0 : Int) ≤ (j : Int) + 1 := by omega
      have iw1 : IntKind.i64.wrap ((j : Int) + 1) = (j : Int) + 1 := wrap_leM (by omega)
      have it1 : ((j : Int) + 1).toNat = j + 1 := by omega
      go_wp2
      go_region_held3 (fun w' => w'.cell? ⟨g, off, none⟩ = some (.int .i64 (nth 0 ix 0)) ∧ w'.cell? ⟨g, off + j, none⟩ = some (.int .i64 (nth 0 ix j)) ∧ w'.cell? ⟨g, off + (j + 1), none⟩ = some (.int .i64 (nth 0 ix (j + 1)))) (first | (simp [go_sem, ↓IntWalk.iteOmega, z0, c0, c1]; done)) (first | (refine step_append_lay (T := w) rfl _ _ rfl kinT fV_c fV_1 rfl skM (hown.ex skM) rfl (l2 := [fanT ix k]) ⟨rfl, .inr ⟨_, 0, rfl, by simp [go_sem]; try omega, fun jj u hu => by match jj, hu with | 0, hu => (simp [fV, fanT, show k + 1 = j from hj, show k + 2 = j + 1 by omega] at hu; subst hu; simp [go_sem, ↓IntWalk.iteOmega]) | 1, hu => (simp [fV, fanT, show k + 1 = j from hj, show k + 2 = j + 1 by omega] at hu; subst hu; simp [go_sem, ↓IntWalk.iteOmega]) | 2, hu => (simp [fV, fanT, show k + 1 = j from hj, show k + 2 = j + 1 by omega] at hu; subst hu; simp [go_sem, ↓IntWalk.iteOmega]) | jj + 3, hu => simp [fV] at hu⟩⟩ (by omega) (by decide) ?_; intro ao' cap' y' hown'))
      go_wp2
      go_roundw
      case rel => exact ⟨k + 1, ao', cap', by omega, by subst hj; go_num, by subst hj; rfl, ⟨y', rfl⟩, by subst hj; rw [← firsts_succ]; exact hown'⟩
      case measure => simp [intOf]; omega
    · have ik : ¬ (j : Int) + 1 < (n : Int) := by omega
      obtain rfl : k = n - 2 := by omega
      go_wp2
      go_ret
      exact ⟨ao', cap', rfl, ⟨y, rfl⟩, hown⟩

end

section


open Go.RowKit Go.ChangeShapes Go.WideShapes Go.ChangeAt

set_option linter.unusedSimpArgs false

set_option linter.unusedVariables false

attribute [local go_sem] plus_size plus_drew dn_set dn_alloc dn_plus plus_dn cell_plus frozen_plus set_plus cell_alloc frozen_alloc set_alloc

attribute [local go_sem] eqarr_40 nearr_40 larr_40

attribute [local go_sem] eqarr_137 nearr_137 larr_137

attribute [local go_sem] isnil_47

attribute [local go_sem] isnil_57

attribute [local go_sem] isnil_58

attribute [local go_sem] isnil_59

theorem upto_succM {p : Nat → Prop} {k : Nat} (h : ∀ j, j < k → p j) (hk : p k) : ∀ j, j < k + 1 → p j := by
  intro j hj
  rcases Nat.lt_or_eq_of_le (Nat.le_of_lt_succ hj) with e | e
  · exact h j e
  · exact e ▸ hk

set_option maxHeartbeats 1000000 in
theorem within_calls (lo hi : Int) (ao : Option Addr) (n cap : Nat) (l : List Int) (w : World) (hl : Lay fI w ao n l) (hn : n ≤ 10000) :
    Calls Tryz.prog 172 #[.int .i64 lo, .int .i64 hi, .slice ao n cap] w fun e w' => e = .returned (.bool (l.all (inR lo hi))) ∧ Below w.heap.size w w' := by
  have hlen := hl.len
  go_enter Tryz.func172, Tryz.ntmps172
  go_wp2
  go_loopw [11] (fun i wr => ∃ k : Nat, k ≤ n ∧ i = .int .i64 k ∧ (∀ j, j < k → inR lo hi (nth 0 l j) = true) ∧ ∃ x, wr = plus w x) (fun i _ => n - (intOf i).toNat)
  case atStart => exact ⟨0, Nat.zero_le _, rfl, fun j hj => by omega, skM⟩
  case round =>
    obtain ⟨k, hk, rfl, hs, x, rfl⟩ := hrel
    by_cases hkl : k < n
    · obtain ⟨g, off, rfl, hg, hcell⟩ := hl.some (by omega)
      have c0 := cellI hlen hcell (k := k) hkl
      have ik : (k : Int) < (n : Int) := by omega
      by_cases h1 : nth 0 l k < lo
      · go_wp2
        go_ret
        exact ⟨by rw [all_not (d := 0) (k := k) (by omega) (by simp [inR]; omega)]; rfl, skB⟩
      · by_cases h2 : hi < nth 0 l k
        · go_wp2
          go_ret
          exact ⟨by rw [all_not (d := 0) (k := k) (by omega) (by simp [inR]; omega)]; rfl, skB⟩
        · go_wp2
          go_roundw
          case rel => exact ⟨k + 1, by omega, by go_num, upto_succM hs (by simp [inR]; omega), skM⟩
          case measure => simp [intOf]; omega
    · have ik : ¬ (k : Int) < (n : Int) := by omega
      go_wp2
      go_ret
      exact ⟨by rw [all_yes (d := 0) (fun j hj => hs j (by omega))]; rfl, skB⟩

set_option maxHeartbeats 2000000 in
theorem equalI_calls (ao ao2 : Option Addr) (n n2 cap cap2 : Nat) (l l2 : List Int) (w : World) (hl : Lay fI w ao n l) (hl2 : Lay fI w ao2 n2 l2) (hn : n ≤ 10000) (hn2 : n2 ≤ 10000) :
    Calls Tryz.prog 93 #[.slice ao n cap, .slice ao2 n2 cap2] w fun e w' => e = .returned (.bool (sameI l l2)) ∧ Below w.heap.size w w' := by
  have hlen := hl.len
  have hlen2 := hl2.len
  by_cases hne : n = n2
  rotate_left
  · rw [show sameI l l2 = false from same_len (by omega)]
    have ine : ¬ (n : Int) = (n2 : Int) := by omega
    have dne : ((n : Int) == (n2 : Int)) = false := by rw [beq_eq_false_iff_ne]; omega
    go_enter Tryz.func93, Tryz.ntmps93
    go_wp2
    go_ret
    exact ⟨rfl, skB⟩
  subst hne
  go_enter Tryz.func93, Tryz.ntmps93
  go_wp2
  go_loopw [13] (fun i wr => ∃ k : Nat, k ≤ n ∧ i = .int .i64 k ∧ (∀ j, j < k → eqI (nth 0 l j) (nth 0 l2 j) = true) ∧ ∃ x, wr = plus w x) (fun i _ => n - (intOf i).toNat)
  case atStart => exact ⟨0, Nat.zero_le _, rfl, fun j hj => by omega, skM⟩
  case round =>
    obtain ⟨k, hk, rfl, hs, x, rfl⟩ := hrel
    by_cases hkl : k < n
    · obtain ⟨g, off, rfl, hg, hcell⟩ := hl.some (by omega)
      obtain ⟨g2, off2, rfl, hg2, hcell2⟩ := hl2.some (by omega)
      have ik : (k : Int) < (n : Int) := by omega
      have c0 := cellI hlen hcell hkl
      have c1 := cellI hlen2 hcell2 hkl
      by_cases q0 : (nth 0 l k) = (nth 0 l2 k)
      rotate_left
      · have dq : ((nth 0 l k) == (nth 0 l2 k)) = false := by simp [q0]
        go_wp2
        refine region_plus (by kernel_rfl) (by kernel_rfl) ?_
        (repeat (go_big_quiet_step (fail)))
        refine wpQuiet_nil ?_
        rintro _ ⟨x2, rfl⟩
        go_wp2
        go_ret
        exact ⟨by rw [show sameI l l2 = false from same_not (k := k) (by omega) (by simp [eqI, q0])]; rfl, skB⟩
      go_wp2
      refine region_plus (by kernel_rfl) (by kernel_rfl) ?_
      (repeat (go_big_quiet_step (fail)))
      refine wpQuiet_nil ?_
      rintro _ ⟨x2, rfl⟩
      go_wp2
      go_roundw
      case rel => exact ⟨k + 1, by omega, by go_num, upto_succM hs (by simp [eqI, q0]), skM⟩
      case measure => simp [intOf]; omega
    · have ik : ¬ (k : Int) < (n : Int) := by omega
      go_wp2
      go_ret
      exact ⟨by rw [show sameI l l2 = true from same_all (by omega) (fun j hj => hs j (by omega))]; rfl, skB⟩

end

section


open Go.RowKit Go.ChangeShapes Go.WideShapes Go.ChangeAt

set_option linter.unusedSimpArgs false

set_option linter.unusedVariables false

attribute [local go_sem] plus_size plus_drew dn_set dn_alloc dn_plus plus_dn cell_plus frozen_plus set_plus cell_alloc frozen_alloc set_alloc

theorem wrap_le9 {n : Int} (h : 0 ≤ n ∧ n ≤ 9223372036854775807) : IntKind.i64.wrap n = n := by
  simp [IntKind.wrap, IntKind.bits, IntKind.signed]
  omega

theorem ex_more9 {T : World} {x : List More} {d : Nat} : ∃ y, plus T [⟨blocks x, d⟩] = plus (plus T x) y := ⟨[⟨#[], d⟩], by simp [plus, blocks, draws]⟩
theorem sk9 {w w' : World} (h : ∃ y, w' = plus w y := by with_reducible repeat (first | exact ex_refl _ | exact ex_more9 | apply ex_alloc | apply ex_plus | apply ex_drew | apply ex_drewN)) : ∃ y, w' = plus w y := h

theorem tside_calls (n : Int) (w : World) : Calls Tryz.prog 137 #[.int .i64 n] w fun e w' => e = .returned (.bool (side n)) ∧ w' = w := by
  by_cases h0 : 1 ≤ n
  · by_cases h1 : n ≤ 16
    · rw [show side n = true by simp [side, h0, h1]]
      go_enter Tryz.func137, Tryz.ntmps137
      go_wp2
      go_ret
      exact ⟨rfl, rfl⟩
    · rw [show side n = false by simp [side, h1]]
      go_enter Tryz.func137, Tryz.ntmps137
      go_wp2
      go_ret
      exact ⟨rfl, rfl⟩
  · rw [show side n = false by simp [side, h0]]
    go_enter Tryz.func137, Tryz.ntmps137
    go_wp2
    go_ret
    exact ⟨rfl, rfl⟩

theorem tside_is {n : Int} {b : Bool} {w : World} (h : side n = b) : Calls Tryz.prog 137 #[.int .i64 n] w fun e w' => e = .returned (.bool b) ∧ w' = w := h ▸ tside_calls n w

theorem tcheck_calls (W H : Int) (ao : Option Addr) (n cap : Nat) (w : World) : Calls Tryz.prog 78 #[.agg #[.int .i64 W, .int .i64 H, .slice ao n cap]] w fun e w' => e = .returned (.int .i64 (errT W H n)) ∧ ∃ y, w' = plus w y := by
  cases hw : side W
  · rw [show errT W H n = 8 by rw [errT, mayT_side hw]; rfl]
    go_enter Tryz.func78, Tryz.ntmps78
    go_wp2_with (go_at_call 137; refine (tside_is (by first | exact hw | exact hh)).mono ?_; rintro e w' ⟨rfl, ew⟩; obtain rfl := ew.symm)
    go_ret
    exact ⟨rfl, sk9⟩
  cases hh : side H
  · rw [show errT W H n = 8 by rw [errT, mayT_side2 hh]; rfl]
    go_enter Tryz.func78, Tryz.ntmps78
    go_wp2_with (go_at_call 137; refine (tside_is (by first | exact hw | exact hh)).mono ?_; rintro e w' ⟨rfl, ew⟩; obtain rfl := ew.symm)
    go_ret
    exact ⟨rfl, sk9⟩
  have b := mul_le16 (side_iff.1 hw) (side_iff.1 hh)
  have ew : IntKind.i64.wrap (W * H) = W * H := wrap_le9 (by omega)
  have ew2 : wrap64 (W * H) = W * H := by rw [IntWalk.wrap64_in] <;> omega
  by_cases hn : (n : Int) = W * H
  · rw [show errT W H n = 0 by rw [errT, mayT_yes hw hh hn]; rfl]
    have hb : ((n : Int) == W * H) = true := by rw [beq_iff_eq]; exact hn
    go_enter Tryz.func78, Tryz.ntmps78
    go_wp2_with (go_at_call 137; refine (tside_is (by first | exact hw | exact hh)).mono ?_; rintro e w' ⟨rfl, ew⟩; obtain rfl := ew.symm)
    go_ret
    exact ⟨rfl, sk9⟩
  · rw [show errT W H n = 8 by rw [errT, mayT_len hn]; rfl]
    have hb : ((n : Int) == W * H) = false := by rw [beq_eq_false_iff_ne]; exact hn
    go_enter Tryz.func78, Tryz.ntmps78
    go_wp2_with (go_at_call 137; refine (tside_is (by first | exact hw | exact hh)).mono ?_; rintro e w' ⟨rfl, ew⟩; obtain rfl := ew.symm)
    go_ret
    exact ⟨rfl, sk9⟩

end

section


open Go.RowKit Go.ChangeShapes Go.WideShapes Go.ChangeAt

set_option linter.unusedSimpArgs false

set_option linter.unusedVariables false

attribute [local go_sem] plus_size plus_drew dn_set dn_alloc dn_plus plus_dn cell_plus frozen_plus set_plus cell_alloc frozen_alloc set_alloc

structure Hush9 (p : Prop) : Prop where
  it : p

theorem q9_of {P : Program} {f : FuncId} {args : Array Value} {w : World} {x : List More} {v : Value}
    (h : Calls P f args (plus w x) fun e w' => e = .returned v ∧ ∃ y, w' = plus (plus w x) y) : Calls P f args (plus w x) fun e w' => e = .returned v ∧ ∃ y, w' = plus w y :=
  h.mono fun _ _ ⟨he, hb⟩ => ⟨he, ex_trans ⟨x, rfl⟩ hb⟩

theorem upto_succ9 {p : Nat → Prop} {k : Nat} (h : ∀ j, j < k → p j) (hk : p k) : ∀ j, j < k + 1 → p j := by
  intro j hj
  rcases Nat.lt_or_eq_of_le (Nat.le_of_lt_succ hj) with e | e
  · exact h j e
  · exact e ▸ hk

theorem checks_many {hs : List TH} (h : 16 < hs.length) : checksT hs = 4 := if_pos h

theorem checks_bad {hs : List TH} {k : Nat} (h : ¬ 16 < hs.length) (hk : k < hs.length) (hb : mayH (nth th0 hs k) = false) : checksT hs = 8 := by
  rw [checksT, if_neg h, if_neg]
  rw [all_not hk hb]
  decide

theorem checks_good {hs : List TH} (h : ¬ 16 < hs.length) (hb : ∀ k, k < hs.length → mayH (nth th0 hs k) = true) : checksT hs = 0 := by
  rw [checksT, if_neg h, if_pos (all_yes hb)]

theorem err_no {t : TH} (h : mayH t = false) : errT t.w t.h t.n = 8 := by rw [errT, if_neg]; rw [show mayT t.w t.h t.n = false from h]; decide

theorem err_ok {t : TH} (h : mayH t = true) : errT t.w t.h t.n = 0 := by rw [errT, if_pos]; exact h

theorem tcheck_is {W H e : Int} {ao : Option Addr} {n cap : Nat} {w : World} (h : errT W H n = e) : Calls Tryz.prog 78 #[.agg #[.int .i64 W, .int .i64 H, .slice ao n cap]] w fun e' w' => e' = .returned (.int .i64 e) ∧ ∃ y, w' = plus w y := h ▸ tcheck_calls W H ao n cap w

set_option maxHeartbeats 2000000 in
theorem tchecks_calls (ao : Option Addr) (n cap : Nat) (hs : List TH) (w : World) (hl : Lay fTh w ao n hs) (hn : n ≤ 9223372036854775807) :
    Calls Tryz.prog 30 #[.slice ao n cap] w fun e w' => e = .returned (.int .i64 (checksT hs)) ∧ ∃ y, w' = plus w y := by
  have hlen := hl.len
  by_cases hbig : 16 < n
  · rw [checks_many (by omega)]
    have ib : (16 : Int) < (n : Int) := by omega
    go_enter Tryz.func30, Tryz.ntmps30
    go_wp2
    go_ret
    exact ⟨rfl, sk9⟩
  have ib : ¬ (16 : Int) < (n : Int) := by omega
  go_enter Tryz.func30, Tryz.ntmps30
  go_wp2
  go_loopw [11] (fun i wr => ∃ k : Nat, k ≤ n ∧ i = .int .i64 k ∧ (∀ j, j < k → mayH (nth th0 hs j) = true) ∧ ∃ y, wr = plus w y) (fun i _ => n - (intOf i).toNat)
  case atStart => exact ⟨0, Nat.zero_le _, rfl, fun j hj => by omega, sk9⟩
  case round =>
    obtain ⟨k, hk, rfl, hs', y, rfl⟩ := hrel
    by_cases hkl : k < n
    · obtain ⟨g, off, rfl, hg, hcell⟩ := hl.some (by omega)
      obtain ⟨c0, c1, c2⟩ := cellTh hlen hcell hkl
      have ik : (k : Int) < (n : Int) := by omega
      cases hm : mayH (nth th0 hs k)
      · have he := err_no hm
        go_wp2_with (go_at_call 78; refine (tcheck_is he).mono ?_; rintro e w' ⟨rfl, nx, rfl⟩)
        go_ret
        exact ⟨by rw [checks_bad (by omega) (by omega) hm]; rfl, sk9⟩
      · have he := err_ok hm
        go_wp2_with (go_at_call 78; refine (tcheck_is he).mono ?_; rintro e w' ⟨rfl, nx, rfl⟩)
        go_roundw
        case rel => exact ⟨k + 1, by omega, by go_num, upto_succ9 hs' hm, sk9⟩
        case measure => simp [intOf]; omega
    · have ik : ¬ (k : Int) < (n : Int) := by omega
      go_wp2
      go_ret
      exact ⟨by rw [checks_good (by omega) (fun j hj => hs' j (by omega))]; rfl, sk9⟩

theorem tchecks_is {ao : Option Addr} {n cap : Nat} {hs : List TH} {w : World} {k : Int} (h : checksT hs = k) (hl : Lay fTh w ao n hs) (hn : n ≤ 9223372036854775807) :
    Calls Tryz.prog 30 #[.slice ao n cap] w fun e w' => e = .returned (.int .i64 k) ∧ ∃ y, w' = plus w y := h ▸ tchecks_calls ao n cap hs w hl hn

theorem minB9 (a b : Int) : (if b < a then b else a) = min a b := by
  split <;> omega

attribute [local go_sem] minB9

def sumT (l : List TH) : Nat := (l.map fun t => min t.n 100000).sum

def greatT (hs : List TH) : Bool := decide (40 < hs.length) || decide (20000 < sumT (hs.take 100))

end

section


open Go.RowKit Go.ChangeShapes Go.WideShapes Go.ChangeAt

set_option linter.unusedSimpArgs false

set_option linter.unusedVariables false

attribute [local go_sem] plus_size plus_drew dn_set dn_alloc dn_plus plus_dn cell_plus frozen_plus set_plus cell_alloc frozen_alloc set_alloc

def farAt (l : List Int) (k : Nat) : Bool := decide (0 ≤ nth 0 l k) && (decide (nth 0 l k ≤ 8192) && (decide (k = 0) || decide (nth 0 l (k - 1) ≤ nth 0 l k)))

def distOk (l : List Int) : Bool := (List.range l.length).all (farAt l) && decide (l.length ≤ 16)

theorem dist_bad {l : List Int} {k : Nat} (hk : k < l.length) (h : farAt l k = false) : distOk l = false := by
  cases h2 : distOk l
  · rfl
  · simp only [distOk, Bool.and_eq_true, List.all_eq_true, List.mem_range] at h2
    rw [h2.1 k hk] at h
    cases h

theorem dist_all {l : List Int} (h : ∀ k, k < l.length → farAt l k = true) : distOk l = decide (l.length ≤ 16) := by
  have : (List.range l.length).all (farAt l) = true := List.all_eq_true.2 fun k hk => h k (List.mem_range.1 hk)
  simp [distOk, this]

def sameNd (a b : Nd) : Bool := decide (a.f.kind = b.f.kind) && (eqmt a.f.m b.f.m && (decide (a.f.on = b.f.on) && (eqv a.f.cen b.f.cen && (sameI a.far b.far && (decide (a.f.mesh = b.f.mesh) && eqsy a.f.sty b.f.sty)))))

theorem sameNd_refl (a : Nd) : sameNd a a = true := by simp [sameNd, eqmt_refl, eqv_refl, eqsy_refl, show sameI a.far a.far = true from same_refl eqI_refl _]

end

section


open Go.RowKit Go.ChangeShapes Go.WideShapes Go.ChangeAt

set_option linter.unusedSimpArgs false

set_option linter.unusedVariables false

attribute [local go_sem] plus_size plus_drew dn_set dn_alloc dn_plus plus_dn cell_plus frozen_plus set_plus cell_alloc frozen_alloc set_alloc

end

end Go.Proofs.YtcekcihijdipoaaGreat
