/- Lists of points that are appended to: the law; what the least box of them is good for. -/
import Derived.Test.YtondjoilcpcneaaBoxL2
import Derived.Test.YtondjoilcpcneaaBox4
import Derived.Deep.AppendLies
namespace Go.Proofs.Ytondjoilcpcneaa
open Go.RowKit Go.ChangeShapes Go.WideShapes Go.ChangeAt
set_option linter.unusedSimpArgs false
set_option linter.unusedVariables false
attribute [local go_sem] plus_size plus_drew dn_set dn_alloc dn_plus plus_dn cell_plus frozen_plus set_plus cell_alloc frozen_alloc set_alloc

theorem ex_more {T : World} {x : List More} {d : Nat} : ∃ y, plus T [⟨blocks x, d⟩] = plus (plus T x) y := ⟨[⟨#[], d⟩], by simp [plus, blocks, draws]⟩

/-- the cells of the first n points -/
def pcells (p : Nat → V3) : Nat → List Value
  | 0 => []
  | k + 1 => pcells p k ++ [.int .i64 (p k).x, .int .i64 (p k).y, .int .i64 (p k).z]
theorem pcells_length (p : Nat → V3) : ∀ n, (pcells p n).length = n * 3
  | 0 => rfl
  | n + 1 => by simp [pcells, pcells_length p n]; omega
theorem pcells_add (p : Nat → V3) (n : Nat) : ∀ m, pcells p n ++ pcells (fun j => p (n + j)) m = pcells p (n + m)
  | 0 => by simp [pcells]
  | m + 1 => by
    show pcells p n ++ (pcells (fun j => p (n + j)) m ++ _) = pcells p (n + m) ++ _
    rw [← List.append_assoc, pcells_add p n m]
    rfl
theorem pcells_at (p : Nat → V3) : ∀ n k, k < n → (pcells p n)[k * 3]? = some (.int .i64 (p k).x) ∧ (pcells p n)[k * 3 + 1]? = some (.int .i64 (p k).y) ∧ (pcells p n)[k * 3 + 2]? = some (.int .i64 (p k).z)
  | 0, k, h => by omega
  | n + 1, k, h => by
    simp only [pcells, List.getElem?_append, pcells_length]
    by_cases e : k = n
    · subst e
      rw [if_neg (by omega), if_neg (by omega), if_neg (by omega), Nat.sub_self, show k * 3 + 1 - k * 3 = 1 by omega, show k * 3 + 2 - k * 3 = 2 by omega]
      exact ⟨rfl, rfl, rfl⟩
    · rw [if_pos (by omega), if_pos (by omega), if_pos (by omega)]
      exact pcells_at p n k (by omega)
theorem pcells_one (p : Nat → V3) : ∀ n, ∀ u ∈ pcells p n, u.oneCell' = true
  | 0, u, h => by cases h
  | n + 1, u, h => by
    simp only [pcells, List.mem_append, List.mem_cons, List.not_mem_nil, or_false] at h
    rcases h with h | rfl | rfl | rfl
    · exact pcells_one p n u h
    all_goals rfl
theorem add_off (g o j : Nat) : (⟨g, o, none⟩ : Addr).add j = ⟨g, o + j, none⟩ := by
  unfold Addr.add
  split <;> simp_all
theorem pcells_lie {w : World} {g off m : Nat} {p : Nat → V3} (h : Lies w g off m p) : ∀ j u, (pcells p m)[j]? = some u → w.cell? ((⟨g, off, none⟩ : Addr).add j) = some u := by
  intro j u hu
  have hj : j < m * 3 := by
    have := (List.getElem?_eq_some_iff.1 hu).1
    rw [pcells_length] at this
    exact this
  obtain ⟨h1, h2, h3⟩ := h.2 (j / 3) (by omega)
  obtain ⟨k1, k2, k3⟩ := pcells_at p m (j / 3) (by omega)
  rw [add_off]
  rcases (show j = j / 3 * 3 ∨ j = j / 3 * 3 + 1 ∨ j = j / 3 * 3 + 2 by omega) with e | e | e
  · rw [e] at hu ⊢
    rw [k1] at hu
    rw [h1, hu]
  · rw [e] at hu ⊢
    rw [k2] at hu
    rw [← Nat.add_assoc, h2, hu]
  · rw [e] at hu ⊢
    rw [k3] at hu
    rw [← Nat.add_assoc, h3, hu]

/-- The value v owns n points, in memory that is newer than T. -/
def Owns (T w : World) (v : Value) (n : Nat) (p : Nat → V3) : Prop := w.ownsRow T.heap.size 23 3 v n (pcells p n)
theorem owns_nil (T w : World) (p : Nat → V3) : Owns T w (.slice none 0 0) 0 p := World.ownsRow_nil w _ _ _
theorem Owns.plus {T w : World} {v : Value} {n : Nat} {p : Nat → V3} (h : Owns T w v n p) (x : List More) : Owns T (plus w x) v n p :=
  World.ownsRow.kept h (row := none) ⟨rfl, rfl, rfl, by simp [Go.Proofs.Ytondjoilcpcneaa.plus], fun k hk _ => plus_block w x k hk⟩ (by cases h : v.ownBlock <;> simp)
theorem Owns.ex {T w w' : World} {v : Value} {n : Nat} {p : Nat → V3} (h : Owns T w v n p) (hw : ∃ x, w' = Go.Proofs.Ytondjoilcpcneaa.plus w x) : Owns T w' v n p := by
  obtain ⟨x, rfl⟩ := hw
  exact h.plus x
theorem Owns.lies {T w : World} {g n cap : Nat} {p : Nat → V3} (h : Owns T w (.slice (some ⟨g, 0, none⟩) n cap) n p) (hn : 0 < n) : Lies w g 0 n p := by
  obtain ⟨g', cap', e, _, hlt⟩ := World.ownsRow.form h hn
  simp only [Value.slice.injEq, Option.some.injEq, Addr.mk.injEq, and_true, true_and] at e
  obtain ⟨rfl, _⟩ := e
  refine ⟨hlt, fun k hk => ?_⟩
  obtain ⟨k1, k2, k3⟩ := pcells_at p n k hk
  rw [Nat.zero_add, World.ownsRow.cellAt h _ (by omega), World.ownsRow.cellAt h _ (by omega), World.ownsRow.cellAt h _ (by omega)]
  exact ⟨k1, k2, k3⟩

theorem info_vec : (Try.prog.info? 23).map (fun i => (i.zero, i.size, i.bytes)) = some (some (.agg #[.int .i64 0, .int .i64 0, .int .i64 0]), 3, 24) := by kernel_rfl

/-- append onto points of one's own, or onto none: the value written out, the world by name. -/
theorem wp_append_pts {o : Oper} {a : Act} {K : Act → World → Prop} {Q : Exit → Act → World → Prop} {w T : World} (s x : Operand)
    (ho : o.op = .call { callee := .builtin .append, args := #[s, x], argTypes := #[35, 35] })
    (v : Value) (n : Nat) (p : Nat → V3) (hs : a.eval s = v) (hT : ∃ y, w = plus T y) (hown : Owns T w v n p)
    (g off m c : Nat) (hx : a.eval x = .slice (some ⟨g, off, none⟩) m c) (hl : Lies w g off m (fun j => p (n + j))) (hm : 0 < m) (hn : n + m ≤ 10000)
    (h : ∀ g cap y, Owns T (plus T y) (.slice (some ⟨g, 0, none⟩) (n + m) cap) (n + m) p → T.heap.size ≤ g → K (a.put o.dst (.slice (some ⟨g, 0, none⟩) (n + m) cap)) (plus T y)) : o.wp Try.prog a w K Q := by
  obtain ⟨i0, hi, hz0, hz1, hz2⟩ := info_parts info_vec
  obtain ⟨y, rfl⟩ := hT
  refine wp_append_lies _ s x 35 ho T.heap.size 23 i0 (.agg #[.int .i64 0, .int .i64 0, .int .i64 0]) 3 24 Try.underlying35 hi hz0 hz1 hz2 rfl (by decide) v n (pcells p n) hs hown ⟨g, off, none⟩ m c (pcells (fun j => p (n + j)) m) hx (pcells_length _ _) (pcells_lie hl) (pcells_one _ _) hm (by unfold maxLen; omega) (by omega) (by rw [plus_size]; omega) _ rfl ?_
  intro g' cap w1 hown1 hgrow hat hlt
  rw [pcells_add] at hown1
  have hbase : T.heap.size ≤ g' := by
    obtain ⟨g2, cap2, e, hb, _⟩ := World.ownsRow.form hown1 (by omega)
    simp only [Value.slice.injEq, Option.some.injEq, Addr.mk.injEq, and_true, true_and] at e
    omega
  have hB : Below T.heap.size T w1 := (plus_below T y).grown hgrow (by rw [plus_size]; omega) (fun k hk => (World.ownsRow.lt hown k hk).1)
  obtain ⟨y', rfl⟩ := below_plus hB
  exact h g' cap y' hown1 hbase

theorem wpList_append_pts {ops : Array Oper} {rest : List Oper} {o : Oper} {a : Act} {Q : Exit → Act → World → Prop} {w T : World} (hgd : o.guard = none) (s x : Operand)
    (ho : o.op = .call { callee := .builtin .append, args := #[s, x], argTypes := #[35, 35] })
    (v : Value) (n : Nat) (p : Nat → V3) (hs : a.eval s = v) (hT : ∃ y, w = plus T y) (hown : Owns T w v n p)
    (g off m c : Nat) (hx : a.eval x = .slice (some ⟨g, off, none⟩) m c) (hl : Lies w g off m (fun j => p (n + j))) (hm : 0 < m) (hn : n + m ≤ 10000)
    (h : ∀ g cap y, Owns T (plus T y) (.slice (some ⟨g, 0, none⟩) (n + m) cap) (n + m) p → T.heap.size ≤ g → wpList Try.prog ops Q rest (a.put o.dst (.slice (some ⟨g, 0, none⟩) (n + m) cap)) (plus T y)) : wpList Try.prog ops Q (o :: rest) a w :=
  wpList_plain hgd fun _ hK => wp_append_pts s x ho v n p hs hT hown g off m c hx hl hm hn fun g cap y h2 h3 => hK _ _ (h g cap y h2 h3)

theorem step_append_pts {ops : Array Oper} {o : Oper} {a : Act} {K : Act → World → Prop} {Q : Exit → Act → World → Prop} {E : Prop} {w T : World} (hgd : o.guard = none) (s x : Operand)
    (ho : o.op = .call { callee := .builtin .append, args := #[s, x], argTypes := #[35, 35] })
    (v : Value) (n : Nat) (p : Nat → V3) (hs : a.eval s = v) (hT : ∃ y, w = plus T y) (hown : Owns T w v n p)
    (g off m c : Nat) (hx : a.eval x = .slice (some ⟨g, off, none⟩) m c) (hl : Lies w g off m (fun j => p (n + j))) (hm : 0 < m) (hn : n + m ≤ 10000)
    (h : ∀ g cap y, Owns T (plus T y) (.slice (some ⟨g, 0, none⟩) (n + m) cap) (n + m) p → T.heap.size ≤ g → K (a.put o.dst (.slice (some ⟨g, 0, none⟩) (n + m) cap)) (plus T y)) :
    if Region.wanted o (yielded ops a.tmps) = true then Oper.wp Try.prog o a w K Q else E := by
  have hw : Region.wanted o (yielded ops a.tmps) = true := by simp [Region.wanted, hgd]
  rw [if_pos hw]
  exact wp_append_pts s x ho v n p hs hT hown g off m c hx hl hm hn h

/-! The least box of points. -/
theorem lst_all (p : Nat → V3) : ∀ n, vle (lst p n).lo (p 0) = true ∧ vle (p 0) (lst p n).hi = true ∧ ∀ k, k < n → holdsBx (lst p n) (p k) = true
  | 0 => ⟨vle_refl _, vle_refl _, fun k h => by omega⟩
  | n + 1 => by
    obtain ⟨h1, h2, h3⟩ := lst_all p n
    refine ⟨vle_trans (vmin_le _ _).1 h1, vle_trans h2 (le_vmax _ _).1, fun k hk => ?_⟩
    by_cases e : k = n
    · subst e
      exact holdsBx_mk ⟨(vmin_le _ _).2, (le_vmax _ _).2⟩
    · obtain ⟨h4, h5⟩ := holdsBx_of (h3 k (by omega))
      exact holdsBx_mk ⟨vle_trans (vmin_le _ _).1 h4, vle_trans h5 (le_vmax _ _).1⟩
/-- it holds each of them .. -/
theorem lst_holds {p : Nat → V3} {n k : Nat} (hk : k < n) : holdsBx (lst p n) (p k) = true := (lst_all p n).2.2 k hk
/-- .. and lies in each box that does -/
theorem lst_inside {p : Nat → V3} {a : B6} : ∀ n, 0 < n → (∀ k, k < n → holdsBx a (p k) = true) → insideBx (lst p n) a = true
  | 0, h0, _ => by omega
  | n + 1, _, h => by
    obtain ⟨h1, h2⟩ := holdsBx_of (h n (by omega))
    by_cases e : n = 0
    · subst e
      exact insideBx_mk ⟨le_vmin h1 h1, vmax_le h2 h2⟩
    · obtain ⟨h3, h4⟩ := insideBx_of (lst_inside n (by omega) (fun k hk => h k (by omega)))
      exact insideBx_mk ⟨le_vmin h3 h1, vmax_le h4 h2⟩
theorem inside_antisymm {a b : B6} (h1 : insideBx a b = true) (h2 : insideBx b a = true) : a = b := by
  obtain ⟨a1, a2⟩ := insideBx_of h1
  obtain ⟨b1, b2⟩ := insideBx_of h2
  have c1 := vle_of a1
  have c2 := vle_of a2
  have c3 := vle_of b1
  have c4 := vle_of b2
  obtain ⟨⟨x, y, z⟩, u, v, t⟩ := a
  obtain ⟨⟨x', y', z'⟩, u', v', t'⟩ := b
  simp only at c1 c2 c3 c4
  congr 2 <;> omega
theorem corner_in {b : B6} (h : vle b.lo b.hi = true) (k : Nat) : holdsBx b (cornerN b k) = true := by
  have := vle_of h
  refine holdsBx_mk ⟨vle_mk ?_, vle_mk ?_⟩ <;> simp only [cornerN] <;> refine ⟨?_, ?_, ?_⟩ <;> split <;> omega
/-- the corners of two boxes, by turns -/
def cornersAB (a b : B6) (j : Nat) : V3 := if j % 2 = 0 then cornerN a (j / 2) else cornerN b (j / 2)
theorem join_lst {a b : B6} (ha : vle a.lo a.hi = true) (hb : vle b.lo b.hi = true) : lst (cornersAB a b) 16 = joinBx a b := by
  refine inside_antisymm (lst_inside 16 (by decide) fun k _ => ?_) ?_
  · unfold cornersAB
    split
    · exact join_holds (.inl (corner_in ha _))
    · exact join_holds (.inr (corner_in hb _))
  · obtain ⟨a1, _⟩ := holdsBx_of (lst_holds (p := cornersAB a b) (show 0 < 16 by decide))
    obtain ⟨b1, _⟩ := holdsBx_of (lst_holds (p := cornersAB a b) (show 1 < 16 by decide))
    obtain ⟨_, a2⟩ := holdsBx_of (lst_holds (p := cornersAB a b) (show 14 < 16 by decide))
    obtain ⟨_, b2⟩ := holdsBx_of (lst_holds (p := cornersAB a b) (show 15 < 16 by decide))
    exact insideBx_mk ⟨le_vmin a1 b1, vmax_le a2 b2⟩
/-- a turned box is the least one of the eight corners, turned -/
theorem turned_lst {m : M9} {b : B6} : lst (fun k => turned m (cornerN b k)) 8 = turnedBx m b := by
  rw [← turned_corners]
  simp [lst, leastBx, corners, vmin, vmax, cornerN]

end Go.Proofs.Ytondjoilcpcneaa
