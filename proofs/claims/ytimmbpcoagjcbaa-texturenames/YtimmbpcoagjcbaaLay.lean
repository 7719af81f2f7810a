/- Lists in memory: where their cells lie; lists that the call itself makes, and what append makes of them. -/
import Derived.Test.YtimmbpcoagjcbaaExt
import Derived.Deep.AppendLies
namespace Go.Proofs.Ytimmbpcoagjcbaa
open Go.RowKit

section
variable {α : Type} {f : α → List Value} {P : Program} {w w' T T' : World} {ao ao2 : Option Addr} {n m cap c : Nat} {l l2 : List α} {e : TypeId}

/-- A list of n elements lies where a slice of the address ao says; f: an element's cells. -/
structure Lay (f : α → List Value) (w : World) (ao : Option Addr) (n : Nat) (l : List α) : Prop where
  len : l.length = n
  at0 : n = 0 ∨ ∃ g off, ao = some ⟨g, off, none⟩ ∧ g < w.heap.size ∧ ∀ j u, (l.flatMap f)[j]? = some u → w.cell? ⟨g, off + j, none⟩ = some u

theorem Lay.plus (h : Lay f w ao n l) (x : List More) : Lay f (plus w x) ao n l :=
  ⟨h.len, h.at0.imp id fun ⟨g, off, e, hg, hc⟩ => ⟨g, off, e, by rw [plus_size]; omega, fun j u hu => by rw [plus_cell _ _ _ _ hg]; exact hc j u hu⟩⟩
theorem Lay.ex (h : Lay f w ao n l) (hw : ∃ x, w' = Go.Proofs.Ytimmbpcoagjcbaa.plus w x) : Lay f w' ao n l := by
  obtain ⟨x, rfl⟩ := hw
  exact h.plus x
theorem Lay.nil : Lay f w ao 0 [] := ⟨rfl, .inl rfl⟩
theorem Lay.zero (h : Lay f w ao 0 l) : l = [] := List.eq_nil_of_length_eq_zero h.len
theorem Lay.some (h : Lay f w ao n l) (hn : 0 < n) : ∃ g off, ao = some ⟨g, off, none⟩ ∧ g < w.heap.size ∧ ∀ j u, (l.flatMap f)[j]? = some u → w.cell? ⟨g, off + j, none⟩ = some u :=
  h.at0.resolve_left (by omega)

theorem flat_length (hc : ∀ x, (f x).length = c) : ∀ l : List α, (l.flatMap f).length = l.length * c
  | [] => by simp
  | a :: l => by rw [List.flatMap_cons, List.length_append, hc, flat_length hc l, List.length_cons, Nat.succ_mul]; omega
theorem flat_at (hc : ∀ x, (f x).length = c) : ∀ (l : List α) (k : Nat) (hk : k < l.length) (j : Nat), j < c → (l.flatMap f)[k * c + j]? = (f l[k])[j]?
  | [], k, hk, _, _ => by simp at hk
  | a :: l, 0, _, j, hj => by rw [List.flatMap_cons, Nat.zero_mul, Nat.zero_add, List.getElem?_append_left (by rw [hc]; exact hj)]; rfl
  | a :: l, k + 1, hk, j, hj => by
    rw [List.flatMap_cons, List.getElem?_append_right (by rw [hc, Nat.succ_mul]; omega), hc, show (k + 1) * c + j - c = k * c + j by rw [Nat.succ_mul]; omega]
    exact flat_at hc l k (by simpa using hk) j hj
theorem flat_one (h1 : ∀ x, ∀ u ∈ f x, u.oneCell' = true) (l : List α) : ∀ u ∈ l.flatMap f, u.oneCell' = true := by
  intro u hu
  obtain ⟨x, _, hx⟩ := List.mem_flatMap.1 hu
  exact h1 x u hx

/-- the element at a place -/
def nth (d : α) (l : List α) (k : Nat) : α := l.getD k d
theorem nth_eq {d : α} {l : List α} {k : Nat} (hk : k < l.length) : nth d l k = l[k] := by simp [nth, hk]
theorem nth_append_left {d : α} {l l2 : List α} {k : Nat} (hk : k < l.length) : nth d (l ++ l2) k = nth d l k := by
  simp [nth, List.getElem?_append, hk]
theorem nth_append_right {d : α} {l l2 : List α} {k : Nat} (hk : l.length ≤ k) : nth d (l ++ l2) k = nth d l2 (k - l.length) := by
  have : ¬ k < l.length := by omega
  simp [nth, List.getElem?_append, this]
theorem nth_range {d : α} {g : Nat → α} {n k : Nat} (hk : k < n) : nth d ((List.range n).map g) k = g k := by
  simp [nth, hk]
theorem nth_mem {d : α} {l : List α} {k : Nat} (hk : k < l.length) : nth d l k ∈ l := by rw [nth_eq hk]; exact List.getElem_mem _
theorem take_nth {d : α} {l : List α} {k : Nat} (hk : k < l.length) : l.take (k + 1) = l.take k ++ [nth d l k] := by
  rw [List.take_add_one, nth_eq hk]; simp [hk]
theorem ext_nth {d : α} {l l2 : List α} (h : l.length = l2.length) (hk : ∀ k, k < l.length → nth d l k = nth d l2 k) : l = l2 := by
  apply List.ext_getElem h
  intro k h1 h2
  have := hk k h1
  rwa [nth_eq h1, nth_eq h2] at this

theorem cell_nth {d : α} {g off : Nat} (hl : l.length = n) (hc : ∀ x, (f x).length = c) (h : ∀ j u, (l.flatMap f)[j]? = some u → w.cell? ⟨g, off + j, none⟩ = some u)
    (k j : Nat) (u : Value) (hk : k < n) (hj : j < c) (hu : (f (nth d l k))[j]? = some u) : w.cell? ⟨g, off + (k * c + j), none⟩ = some u := by
  subst hl
  refine h _ u ?_
  rw [flat_at hc l k hk j hj, ← nth_eq hk]
  exact hu

/-- The slice of address ao, length n and capacity cap owns a list, in memory that is newer than T. -/
def Own (e : TypeId) (c : Nat) (f : α → List Value) (T w : World) (ao : Option Addr) (n cap : Nat) (l : List α) : Prop :=
  l.length = n ∧ w.ownsRow T.heap.size e c (.slice ao n cap) n (l.flatMap f)
theorem own_nil : Own e c f T w none 0 0 [] := ⟨rfl, World.ownsRow_nil w _ _ _⟩
theorem Own.plus (h : Own e c f T w ao n cap l) (x : List More) : Own e c f T (plus w x) ao n cap l :=
  ⟨h.1, World.ownsRow.kept h.2 (row := none) ⟨rfl, rfl, rfl, by simp [Go.Proofs.Ytimmbpcoagjcbaa.plus], fun k hk _ => plus_block w x k hk⟩ (by cases h : Value.ownBlock (.slice ao n cap) <;> simp)⟩
theorem Own.ex (h : Own e c f T w ao n cap l) (hw : ∃ x, w' = Go.Proofs.Ytimmbpcoagjcbaa.plus w x) : Own e c f T w' ao n cap l := by
  obtain ⟨x, rfl⟩ := hw
  exact h.plus x
theorem Own.lay (h : Own e c f T w ao n cap l) : Lay f w ao n l := by
  refine ⟨h.1, ?_⟩
  by_cases hn : n = 0
  · exact .inl hn
  right
  obtain ⟨g, cap', e1, _, hlt⟩ := World.ownsRow.form h.2 (by omega)
  simp only [Value.slice.injEq, true_and] at e1
  obtain ⟨rfl, rfl⟩ := e1
  refine ⟨g, 0, rfl, hlt, fun j u hu => ?_⟩
  have := World.ownsRow.cells h.2 (g := g) rfl j u hu
  rw [Nat.zero_add]
  have hadd : (⟨g, 0, none⟩ : Addr).add j = ⟨g, j, none⟩ := by unfold Addr.add; split <;> simp_all
  rwa [hadd] at this
theorem Own.base (h : Own e c f T w ao n cap l) (hT : T'.heap.size ≤ T.heap.size) : Own e c f T' w ao n cap l := by
  refine ⟨h.1, h.2.1, h.2.2.imp id ?_⟩
  rintro ⟨g, cp, cur, h1, h2, h3⟩
  exact ⟨g, cp, cur, h1, by omega, h3⟩

/-- What is asked of a slice's type and its elements' type. -/
structure Kin (P : Program) (t e : TypeId) (c b : Nat) : Prop where
  und : P.underlying t = Option.some (.slice e)
  info : ∃ i z, P.info? e = Option.some i ∧ i.zero = Option.some z ∧ i.size = c ∧ i.bytes = b ∧ z.cells.size = c
  pos : 0 < c

theorem run_append_zero {t ty : TypeId} {b : Nat} (hk : Kin P t e c b) (hn : n ≤ cap) (c2 : Nat) :
    (Builtin.append_ #[t, t] ty #[.slice ao n cap, .slice ao2 0 c2]).run P w = .ok (.slice ao n cap) w := by
  obtain ⟨i, z, hi, _⟩ := hk.info
  cases ao <;> cases ao2 <;> simp [Builtin.append_, run_underlying hk.und, sizeOf, typeInfo, hi, Builtin.lenOf, Builtin.firstCells, storeCells, loadCells, loadCellsFrom, hn]

theorem run_append_lay {t ty : TypeId} {b : Nat} (hk : Kin P t e c b) (hc : ∀ x, (f x).length = c) (h1 : ∀ x, ∀ u ∈ f x, u.oneCell' = true)
    (hT : ∃ y, w = plus T y) (hown : Own e c f T w ao n cap l) (c2 : Nat) (hl : Lay f w ao2 m l2) (hm : n + m ≤ maxLen) (hb : (n + m) * b ≤ 140737488355328) :
    ∃ ao' cap' y, (Builtin.append_ #[t, t] ty #[.slice ao n cap, .slice ao2 m c2]).run P w = .ok (.slice ao' (n + m) cap') (plus T y) ∧ Own e c f T (plus T y) ao' (n + m) cap' (l ++ l2) := by
  by_cases h0 : m = 0
  · subst h0
    have hnc : n ≤ cap := by
      rcases hown.2.2 with ⟨e, _⟩ | ⟨g, cp, cur, e, _, _, hcp, _⟩
      · simp only [Value.slice.injEq] at e; omega
      · simp only [Value.slice.injEq] at e; omega
    obtain ⟨y, rfl⟩ := hT
    refine ⟨ao, cap, y, run_append_zero hk hnc c2, ?_⟩
    rw [hl.zero, List.append_nil, Nat.add_zero]
    exact hown
  obtain ⟨g, off, rfl, hg, hcell⟩ := hl.some (by omega)
  obtain ⟨i, z, hi, hz, hz1, hz2, hz3⟩ := hk.info
  obtain ⟨y, rfl⟩ := hT
  obtain ⟨v', w1, hr, ho, hgr, _, _⟩ := run_append_own_at (P := P) (plus T y) T.heap.size t ty e i z c b hk.und hi hz hz1 hz2 hz3 hk.pos (.slice ao n cap) n (l.flatMap f) hown.2 ⟨g, off, none⟩ m c2 (l2.flatMap f)
    (by rw [flat_length hc, hl.len]) (fun j u hu => by have hadd : (⟨g, off, none⟩ : Addr).add j = ⟨g, off + j, none⟩ := (by unfold Addr.add; split <;> simp_all); rw [hadd]; exact hcell j u hu) (flat_one h1 l2) hm hb (by rw [plus_size]; omega)
  have hB : Below T.heap.size T w1 := (plus_below T y).grown hgr (by rw [plus_size]; omega) (fun k hk => (World.ownsRow.lt hown.2 k hk).1)
  obtain ⟨y', rfl⟩ := below_plus hB
  obtain ⟨g', cap', rfl, _, _⟩ := World.ownsRow.form ho (by omega)
  exact ⟨_, cap', y', hr, by rw [List.length_append, hown.1, hl.len], by rw [List.flatMap_append]; exact ho⟩

/-- 'append(s[:0:0], s...)': a list in new memory, whatever it was. -/
theorem run_append_clone {t ty : TypeId} {b : Nat} (hk : Kin P t e c b) (hc : ∀ x, (f x).length = c) (h1 : ∀ x, ∀ u ∈ f x, u.oneCell' = true)
    (hl : Lay f w ao2 n l) (c2 : Nat) (hm : n ≤ maxLen) (hb : n * b ≤ 140737488355328) (hn : 0 < n) :
    ∃ ao' cap' y, (Builtin.append_ #[t, t] ty #[.slice ao 0 0, .slice ao2 n c2]).run P w = .ok (.slice ao' n cap') (plus w y) ∧ Own e c f w (plus w y) ao' n cap' l := by
  obtain ⟨g, off, rfl, hg, hcell⟩ := hl.some hn
  cases ao with
  | none =>
    obtain ⟨ao', cap', y, hr, ho⟩ := run_append_lay (ty := ty) (T := w) hk hc h1 (ex_refl w) (own_nil (e := e) (c := c) (f := f) (T := w) (w := w)) c2 hl (by omega) (by rwa [Nat.zero_add])
    rw [Nat.zero_add, List.nil_append] at *
    exact ⟨ao', cap', y, hr, ho⟩
  | some b0 =>
    obtain ⟨i, z, hi, hz, hz1, hz2, hz3⟩ := hk.info
    subst hz1 hz2
    have hr := run_append_grow (P := P) w t ty e i z hk.und hi hz b0 0 0 [] (by simp) (by simp) ⟨g, off, none⟩ n c2 (l.flatMap f) (by rw [flat_length hc, hl.len])
      (fun j u hu => by have hadd : (⟨g, off, none⟩ : Addr).add j = ⟨g, off + j, none⟩ := (by unfold Addr.add; split <;> simp_all); rw [hadd]; exact hcell j u hu) (by omega) (by unfold maxLen at hm; omega) (growslice_fits (by omega) (by rwa [Nat.zero_add]))
    rw [Nat.zero_add] at hr
    have hge := grownCap_ge w n 0 e
    have hcm : grownCap w n 0 e ≤ maxLen := grownCap_le_maxLen w n 0 e hm
    obtain ⟨y, hy⟩ := ex_alloc (o := .cells (([] : List Value).toArray ++ (l.flatMap f).toArray ++ Builtin.zeroCells z.cells (grownCap w n 0 e - n)) e) (ex_drew (ex_refl w))
    refine ⟨_, _, y, by rw [hr, hy], ?_⟩
    rw [← hy]
    refine ⟨hl.len, by rw [flat_length hc, hl.len], .inr ⟨w.heap.size, _, _, rfl, Nat.le_refl _, heap_alloc_new w.drew _, hge, hcm, ?_, ?_⟩⟩
    · simp only [Array.size_append, List.size_toArray, size_zeroCells, hz3, flat_length hc, hl.len, List.length_nil, Nat.zero_add, ← Nat.add_mul]
      congr 1
      omega
    · have hlen : (l.flatMap f).length = n * i.size := by rw [flat_length hc, hl.len]
      simp only [List.nil_append, Array.toList_append]
      rw [← hlen]
      simp
end

section
variable {α : Type} {f : α → List Value} {P : Program} {w T : World} {ao ao2 : Option Addr} {n m cap c c2 : Nat} {l l2 : List α} {e t : TypeId} {b : Nat} {o : Oper} {a : Act} {K : Act → World → Prop} {Q : Exit → Act → World → Prop}

theorem wp_append_lay (s x : Operand) (ho : o.op = .call { callee := .builtin .append, args := #[s, x], argTypes := #[t, t] }) (hk : Kin P t e c b) (hc : ∀ x, (f x).length = c) (h1 : ∀ x, ∀ u ∈ f x, u.oneCell' = true)
    (hs : a.eval s = .slice ao n cap) (hT : ∃ y, w = plus T y) (hown : Own e c f T w ao n cap l) (hx : a.eval x = .slice ao2 m c2) (hl : Lay f w ao2 m l2) (hm : n + m ≤ 100000) (hb : b ≤ 100000)
    (h : ∀ ao' cap' y, Own e c f T (plus T y) ao' (n + m) cap' (l ++ l2) → K (a.put o.dst (.slice ao' (n + m) cap')) (plus T y)) : o.wp P a w K Q := by
  obtain ⟨ao', cap', y, hr, h2⟩ := run_append_lay (ty := o.type) hk hc h1 hT hown c2 hl (by unfold maxLen; omega) (Nat.le_trans (Nat.mul_le_mul hm hb) (by decide))
  unfold Oper.wp execOp
  simp only [ho, resolve, invoke, builtin, Sem.run_bind, Sem.run_pure, Result.andThen_ok, List.map_toArray, List.map_cons, List.map_nil, hs, hx, hr]
  exact h ao' cap' y h2

theorem wpList_append_lay {ops : Array Oper} {rest : List Oper} (hgd : o.guard = none) (s x : Operand) (ho : o.op = .call { callee := .builtin .append, args := #[s, x], argTypes := #[t, t] }) (hk : Kin P t e c b) (hc : ∀ x, (f x).length = c) (h1 : ∀ x, ∀ u ∈ f x, u.oneCell' = true)
    (hs : a.eval s = .slice ao n cap) (hT : ∃ y, w = plus T y) (hown : Own e c f T w ao n cap l) (hx : a.eval x = .slice ao2 m c2) (hl : Lay f w ao2 m l2) (hm : n + m ≤ 100000) (hb : b ≤ 100000)
    (h : ∀ ao' cap' y, Own e c f T (plus T y) ao' (n + m) cap' (l ++ l2) → wpList P ops Q rest (a.put o.dst (.slice ao' (n + m) cap')) (plus T y)) : wpList P ops Q (o :: rest) a w :=
  wpList_plain hgd fun _ hK => wp_append_lay s x ho hk hc h1 hs hT hown hx hl hm hb fun ao' cap' y h2 => hK _ _ (h ao' cap' y h2)

theorem step_append_lay {ops : Array Oper} {E : Prop} (hgd : o.guard = none) (s x : Operand) (ho : o.op = .call { callee := .builtin .append, args := #[s, x], argTypes := #[t, t] }) (hk : Kin P t e c b) (hc : ∀ x, (f x).length = c) (h1 : ∀ x, ∀ u ∈ f x, u.oneCell' = true)
    (hs : a.eval s = .slice ao n cap) (hT : ∃ y, w = plus T y) (hown : Own e c f T w ao n cap l) (hx : a.eval x = .slice ao2 m c2) (hl : Lay f w ao2 m l2) (hm : n + m ≤ 100000) (hb : b ≤ 100000)
    (h : ∀ ao' cap' y, Own e c f T (plus T y) ao' (n + m) cap' (l ++ l2) → K (a.put o.dst (.slice ao' (n + m) cap')) (plus T y)) :
    if Region.wanted o (yielded ops a.tmps) = true then Oper.wp P o a w K Q else E := by
  have hw : Region.wanted o (yielded ops a.tmps) = true := by simp [Region.wanted, hgd]
  rw [if_pos hw]
  exact wp_append_lay s x ho hk hc h1 hs hT hown hx hl hm hb h

/-- Either a copy in new memory, or, of nothing, what was handed in. -/
theorem wp_append_clone (s x : Operand) (ho : o.op = .call { callee := .builtin .append, args := #[s, x], argTypes := #[t, t] }) (hk : Kin P t e c b) (hc : ∀ x, (f x).length = c) (h1 : ∀ x, ∀ u ∈ f x, u.oneCell' = true)
    (hs : a.eval s = .slice ao 0 0) (hx : a.eval x = .slice ao2 n c2) (hl : Lay f w ao2 n l) (hm : n ≤ 100000) (hb : b ≤ 100000)
    (h : ∀ ao' cap' y, (n = 0 ∨ Own e c f w (plus w y) ao' n cap' l) → K (a.put o.dst (.slice ao' n cap')) (plus w y)) : o.wp P a w K Q := by
  by_cases h0 : n = 0
  · subst h0
    have hr := run_append_zero (ty := o.type) (w := w) (ao := ao) (ao2 := ao2) hk (Nat.zero_le 0) c2
    unfold Oper.wp execOp
    simp only [ho, resolve, invoke, builtin, Sem.run_bind, Sem.run_pure, Result.andThen_ok, List.map_toArray, List.map_cons, List.map_nil, hs, hx, hr]
    obtain ⟨y, hy⟩ := ex_refl w
    have := h ao 0 y (.inl rfl)
    rwa [← hy] at this
  · obtain ⟨ao', cap', y, hr, h2⟩ := run_append_clone (ty := o.type) (ao := ao) hk hc h1 hl c2 (by unfold maxLen; omega) (Nat.le_trans (Nat.mul_le_mul hm hb) (by decide)) (by omega)
    unfold Oper.wp execOp
    simp only [ho, resolve, invoke, builtin, Sem.run_bind, Sem.run_pure, Result.andThen_ok, List.map_toArray, List.map_cons, List.map_nil, hs, hx, hr]
    exact h ao' cap' y (.inr h2)

theorem wpList_append_clone {ops : Array Oper} {rest : List Oper} (hgd : o.guard = none) (s x : Operand) (ho : o.op = .call { callee := .builtin .append, args := #[s, x], argTypes := #[t, t] }) (hk : Kin P t e c b) (hc : ∀ x, (f x).length = c) (h1 : ∀ x, ∀ u ∈ f x, u.oneCell' = true)
    (hs : a.eval s = .slice ao 0 0) (hx : a.eval x = .slice ao2 n c2) (hl : Lay f w ao2 n l) (hm : n ≤ 100000) (hb : b ≤ 100000)
    (h : ∀ ao' cap' y, (n = 0 ∨ Own e c f w (plus w y) ao' n cap' l) → wpList P ops Q rest (a.put o.dst (.slice ao' n cap')) (plus w y)) : wpList P ops Q (o :: rest) a w :=
  wpList_plain hgd fun _ hK => wp_append_clone s x ho hk hc h1 hs hx hl hm hb fun ao' cap' y h2 => hK _ _ (h ao' cap' y h2)
end

end Go.Proofs.Ytimmbpcoagjcbaa
