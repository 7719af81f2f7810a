/- append, with all that it leaves alone. -/
import Derived.Test.YtimmbpcoagjcbaaOwn2
namespace Go.Proofs.Ytimmbpcoagjcbaa
open Go.RowKit

section
variable {α β : Type} {f : α → List Value} {f' : β → List Value} {P : Program} {w w1 T T' : World} {ao ao2 : Option Addr} {n m cap c c' c2 : Nat} {l l2 : List α} {l' : List β} {e e' t : TypeId} {b : Nat} {o : Oper} {a : Act} {K : Act → World → Prop} {Q : Exit → Act → World → Prop}

theorem grown_refl (w : World) (r : Option Nat) : w.grownBy w r := ⟨rfl, rfl, rfl, Nat.le_refl _, fun _ _ _ => rfl⟩

theorem run_append_lay2 {ty : TypeId} (hk : Kin P t e c b) (hc : ∀ x, (f x).length = c) (h1 : ∀ x, ∀ u ∈ f x, u.oneCell' = true)
    (hT : ∃ y, w = plus T y) (hown : Own e c f T w ao n cap l) (c2 : Nat) (hl : Lay f w ao2 m l2) (hm : n + m ≤ maxLen) (hb : (n + m) * b ≤ 140737488355328) :
    ∃ ao' cap' w1, (Builtin.append_ #[t, t] ty #[.slice ao n cap, .slice ao2 m c2]).run P w = .ok (.slice ao' (n + m) cap') w1 ∧ Own e c f T w1 ao' (n + m) cap' (l ++ l2) ∧ (∃ y, w1 = plus T y) ∧ w.grownBy w1 (Value.ownBlock (.slice ao n cap)) := by
  by_cases h0 : m = 0
  · subst h0
    have hnc : n ≤ cap := by
      rcases hown.2.2 with ⟨e, _⟩ | ⟨g, cp, cur, e, _, _, hcp, _⟩
      · simp only [Value.slice.injEq] at e; omega
      · simp only [Value.slice.injEq] at e; omega
    refine ⟨ao, cap, w, run_append_zero hk hnc c2, ?_, hT, grown_refl w _⟩
    rw [hl.zero, List.append_nil, Nat.add_zero]
    exact hown
  obtain ⟨g, off, rfl, hg, hcell⟩ := hl.some (by omega)
  obtain ⟨i, z, hi, hz, hz1, hz2, hz3⟩ := hk.info
  obtain ⟨y, rfl⟩ := hT
  obtain ⟨v', w1, hr, ho, hgr, _, _⟩ := run_append_own_at (P := P) (plus T y) T.heap.size t ty e i z c b hk.und hi hz hz1 hz2 hz3 hk.pos (.slice ao n cap) n (l.flatMap f) hown.2 ⟨g, off, none⟩ m c2 (l2.flatMap f)
    (by rw [flat_length hc, hl.len]) (fun j u hu => by have hadd : (⟨g, off, none⟩ : Addr).add j = ⟨g, off + j, none⟩ := (by unfold Addr.add; split <;> simp_all); rw [hadd]; exact hcell j u hu) (flat_one h1 l2) hm hb (by rw [plus_size]; omega)
  have hB : Below T.heap.size T w1 := (plus_below T y).grown hgr (by rw [plus_size]; omega) (fun k hk => (World.ownsRow.lt hown.2 k hk).1)
  obtain ⟨g', cap', rfl, _, _⟩ := World.ownsRow.form ho (by omega)
  exact ⟨_, cap', w1, hr, ⟨by rw [List.length_append, hown.1, hl.len], by rw [List.flatMap_append]; exact ho⟩, below_plus hB, hgr⟩

theorem wp_append_lay2 (s x : Operand) (ho : o.op = .call { callee := .builtin .append, args := #[s, x], argTypes := #[t, t] }) (hk : Kin P t e c b) (hc : ∀ x, (f x).length = c) (h1 : ∀ x, ∀ u ∈ f x, u.oneCell' = true)
    (hs : a.eval s = .slice ao n cap) (hT : ∃ y, w = plus T y) (hown : Own e c f T w ao n cap l) (hx : a.eval x = .slice ao2 m c2) (hl : Lay f w ao2 m l2) (hm : n + m ≤ 100000) (hb : b ≤ 100000)
    (h : ∀ ao' cap' w1, Own e c f T w1 ao' (n + m) cap' (l ++ l2) → (∃ y, w1 = plus T y) → w.grownBy w1 (Value.ownBlock (.slice ao n cap)) → K (a.put o.dst (.slice ao' (n + m) cap')) w1) : o.wp P a w K Q := by
  obtain ⟨ao', cap', w1, hr, h2, h3, h4⟩ := run_append_lay2 (ty := o.type) hk hc h1 hT hown c2 hl (by unfold maxLen; omega) (Nat.le_trans (Nat.mul_le_mul hm hb) (by decide))
  unfold Oper.wp execOp
  simp only [ho, resolve, invoke, builtin, Sem.run_bind, Sem.run_pure, Result.andThen_ok, List.map_toArray, List.map_cons, List.map_nil, hs, hx, hr]
  exact h ao' cap' w1 h2 h3 h4

theorem wpList_append_lay2 {ops : Array Oper} {rest : List Oper} (hgd : o.guard = none) (s x : Operand) (ho : o.op = .call { callee := .builtin .append, args := #[s, x], argTypes := #[t, t] }) (hk : Kin P t e c b) (hc : ∀ x, (f x).length = c) (h1 : ∀ x, ∀ u ∈ f x, u.oneCell' = true)
    (hs : a.eval s = .slice ao n cap) (hT : ∃ y, w = plus T y) (hown : Own e c f T w ao n cap l) (hx : a.eval x = .slice ao2 m c2) (hl : Lay f w ao2 m l2) (hm : n + m ≤ 100000) (hb : b ≤ 100000)
    (h : ∀ ao' cap' w1, Own e c f T w1 ao' (n + m) cap' (l ++ l2) → (∃ y, w1 = plus T y) → w.grownBy w1 (Value.ownBlock (.slice ao n cap)) → wpList P ops Q rest (a.put o.dst (.slice ao' (n + m) cap')) w1) : wpList P ops Q (o :: rest) a w :=
  wpList_plain hgd fun _ hK => wp_append_lay2 s x ho hk hc h1 hs hT hown hx hl hm hb fun ao' cap' w1 h2 h3 h4 => hK _ _ (h ao' cap' w1 h2 h3 h4)

/-- a block of another type stays -/
theorem grown_blk {g : Nat} {cur : Array Value} (hgr : w.grownBy w1 (Value.ownBlock (.slice ao n cap))) (hown : Own e c f T w ao n cap l) (hb : w.heap[g]? = some (.cells cur e')) (he : e' ≠ e) : w1.heap[g]? = some (.cells cur e') := by
  rw [hgr.block g (blk_lt hb) ?_]
  · exact hb
  · intro e0
    cases ao with
    | none => simp [Value.ownBlock] at e0
    | some a0 =>
      simp only [Value.ownBlock, Option.some.injEq] at e0
      rcases hown.2.2 with ⟨h1, _⟩ | ⟨k, cp, cu, h1, h2, h3, _⟩
      · simp at h1
      · simp only [Value.slice.injEq, Option.some.injEq] at h1
        rw [h1.1] at e0
        simp only at e0
        rw [← e0, hb] at h3
        cases h3
        exact he rfl
/-- a list of another type stays -/
theorem grown_own (hgr : w.grownBy w1 (Value.ownBlock (.slice ao n cap))) (hown : Own e c f T w ao n cap l) (h : Own e' c' f' T' w ao2 m c2 l') (he : e' ≠ e) : Own e' c' f' T' w1 ao2 m c2 l' := by
  refine ⟨h.1, h.2.1, h.2.2.imp id ?_⟩
  rintro ⟨k, cp, cu, h1, h2, h3, h4⟩
  exact ⟨k, cp, cu, h1, h2, grown_blk hgr hown h3 he, h4⟩
end
end Go.Proofs.Ytimmbpcoagjcbaa
