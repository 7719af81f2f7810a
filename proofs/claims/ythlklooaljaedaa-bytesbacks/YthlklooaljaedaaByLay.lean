/- Bytes in memory: their cells, lists of them as arguments, as strings; append of many. -/
import Derived.Test.YthlklooaljaedaaLay
import Derived.Test.YthlklooaljaedaaByMath
import Derived.Test.YthlklooaljaedaaOpen
import Derived.Laws.BytesString
import Derived.OpenShut
import Derived.Laws.MakeOwn
namespace Go.Proofs.Ythlklooaljaedaa
open Go.RowKit

def fU (n : Int) : List Value := [.int .u8 n]
theorem fU_c : ∀ x, (fU x).length = 1 := fun _ => rfl
theorem fU_1 : ∀ x, ∀ u ∈ fU x, u.oneCell' = true := by intro x u hu; simp only [fU, List.mem_cons, List.not_mem_nil, or_false] at hu; subst hu; rfl

section
variable {w : World} {g off n k : Nat}
theorem cellU {l : List Int} (hl : l.length = n) (h : ∀ j u, (l.flatMap fU)[j]? = some u → w.cell? ⟨g, off + j, none⟩ = some u) (hk : k < n) : w.cell? ⟨g, off + k, none⟩ = some (.int .u8 (nth 0 l k)) := by
  have := cell_nth (d := 0) hl fU_c h k 0 (.int .u8 (nth 0 l k)) hk (by decide) rfl
  rwa [Nat.mul_one, Nat.add_zero] at this
end
theorem Byt.nth {l : List Int} {k : Nat} (h : Byt l) (hk : k < l.length) : 0 ≤ Go.Proofs.Ythlklooaljaedaa.nth 0 l k ∧ Go.Proofs.Ythlklooaljaedaa.nth 0 l k < 256 := h _ (nth_mem hk)

/-- The string of bytes. -/
def bstr (l : List Int) : ByteArray := l.foldl (fun r n => r.push (UInt8.ofNat n.toNat)) ByteArray.empty

section
variable {H : Type} {enc : TypeId × Value → H} {P : Program} {W : World} {base : Nat} {spare : Nat → Bool} {held : Bool} {ao : Option Addr} {n : Nat} {e : TypeId}
theorem lay_bytes (ht : P.underlying e = some (.int .u8)) (h : RowsAt W ao n 1 (fun cs => ∃ m y, DataW.trod enc P W base spare held m e cs = some y)) : ∃ l : List Int, Lay fU W ao n l ∧ Byt l := by
  obtain ⟨l, hl, hr⟩ := lay_rows (f := fU) (R := fun x => 0 ≤ x ∧ x < 256) 0 (by decide) fU_c h (by
    rintro cs hl ⟨m, y, hy⟩
    match cs, hl, hy with
    | [a], _, hy =>
      obtain ⟨z, e0, _, wk⟩ := DataW.trod_int ht hy
      obtain rfl : a = .int .u8 z := by simpa using e0
      have hb := bounds_u8 wk
      exact ⟨z, rfl, hb.1, by omega⟩)
  refine ⟨l, hl, fun x hx => ?_⟩
  obtain ⟨k, hk, rfl⟩ := List.getElem_of_mem hx
  have := hr k (by rw [← hl.len]; exact hk)
  rwa [nth_eq hk] at this
end

section
variable {α : Type} {f : α → List Value} {P : Program} {w T : World} {ao ao2 : Option Addr} {n m cap c c2 : Nat} {l l2 : List α} {e t : TypeId} {b : Nat} {o : Oper} {a : Act} {K : Act → World → Prop} {Q : Exit → Act → World → Prop}

theorem wp_append_far (s x : Operand) (ho : o.op = .call { callee := .builtin .append, args := #[s, x], argTypes := #[t, t] }) (hk : Kin P t e c b) (hc : ∀ x, (f x).length = c) (h1 : ∀ x, ∀ u ∈ f x, u.oneCell' = true)
    (hs : a.eval s = .slice ao n cap) (hT : ∃ y, w = plus T y) (hown : Own e c f T w ao n cap l) (hx : a.eval x = .slice ao2 m c2) (hl : Lay f w ao2 m l2) (hm : n + m ≤ 10000000) (hb : b ≤ 100000)
    (h : ∀ ao' cap' y, Own e c f T (plus T y) ao' (n + m) cap' (l ++ l2) → K (a.put o.dst (.slice ao' (n + m) cap')) (plus T y)) : o.wp P a w K Q := by
  obtain ⟨ao', cap', y, hr, h2⟩ := run_append_lay (ty := o.type) hk hc h1 hT hown c2 hl (by unfold maxLen; omega) (Nat.le_trans (Nat.mul_le_mul hm hb) (by decide))
  unfold Oper.wp execOp
  simp only [ho, resolve, invoke, builtin, Sem.run_bind, Sem.run_pure, Result.andThen_ok, List.map_toArray, List.map_cons, List.map_nil, hs, hx, hr]
  exact h ao' cap' y h2

theorem wpList_append_far {ops : Array Oper} {rest : List Oper} (hgd : o.guard = none) (s x : Operand) (ho : o.op = .call { callee := .builtin .append, args := #[s, x], argTypes := #[t, t] }) (hk : Kin P t e c b) (hc : ∀ x, (f x).length = c) (h1 : ∀ x, ∀ u ∈ f x, u.oneCell' = true)
    (hs : a.eval s = .slice ao n cap) (hT : ∃ y, w = plus T y) (hown : Own e c f T w ao n cap l) (hx : a.eval x = .slice ao2 m c2) (hl : Lay f w ao2 m l2) (hm : n + m ≤ 10000000) (hb : b ≤ 100000)
    (h : ∀ ao' cap' y, Own e c f T (plus T y) ao' (n + m) cap' (l ++ l2) → wpList P ops Q rest (a.put o.dst (.slice ao' (n + m) cap')) (plus T y)) : wpList P ops Q (o :: rest) a w :=
  wpList_plain hgd fun _ hK => wp_append_far s x ho hk hc h1 hs hT hown hx hl hm hb fun ao' cap' y h2 => hK _ _ (h ao' cap' y h2)
end

theorem flat_fU : ∀ l : List Int, l.flatMap fU = l.map (Value.int .u8)
  | [] => rfl
  | a :: l => by rw [List.flatMap_cons, flat_fU l]; rfl

section
variable {P : Program} {w : World} {ao : Option Addr} {n cap : Nat} {l : List Int}
/-- 'string(b)' -/
theorem run_conv_lay {src dst e : TypeId} (hs : P.underlying src = some (.slice e)) (he : P.underlying e = some (.int .u8)) (hd : P.underlying dst = some .string) (hl : Lay fU w ao n l) :
    (convert src dst (.slice ao n cap)).run P w = .ok (.string (bstr l)) w := by
  rw [run_convert_bytes_string w src dst e ao n cap hs he hd]
  by_cases hn : n = 0
  · subst hn
    rw [hl.zero]
    cases ao <;> simp [Conv.bytesToString, loadCells, loadCellsFrom, bstr]
  · obtain ⟨g, off, rfl, hg, hcell⟩ := hl.some (by omega)
    have h := run_loadCells_list (P := P) w ⟨g, off, none⟩ (l.map (Value.int .u8)) (fun j v hj => by
      rw [add_none]
      refine hcell j v ?_
      rw [flat_fU]
      exact hj)
    rw [List.length_map, hl.len] at h
    exact run_bytesToString w _ n cap l h
end

section
variable {H : Type} {enc : TypeId × Value → H} {P : Program} {W : World} {base : Nat} {spare : Nat → Bool} {held : Bool}
theorem open_slc {c fuel : Nat} {t e : TypeId} {v : Value} {x : DataW H × List MemPlace} (ht : P.underlying t = some (.slice e)) (hc : P.cellsOf e = c) (hc0 : 0 < c)
    (h : DataW.trod enc P W base spare held fuel t [v] = some x) :
    ∃ (ao : Option Addr) (n cap : Nat), v = .slice ao n cap ∧ n ≤ 9223372036854775807 ∧ n ≤ cap ∧ RowsAt W ao n c (fun cs => ∃ m y, DataW.trod enc P W base spare held m e cs = some y) := by
  obtain ⟨ao, n, cap, rfl, h1, h2, h3⟩ := open_sl ht hc hc0 h
  refine ⟨ao, n, cap, rfl, h1, ?_, h3⟩
  rcases Go.Deep.open_slice ht h with ⟨h0, _⟩ | ⟨a, len, cap', m, n', D, Pl, h0, hb, hl, hm, hmm, _, hall⟩
  · simp only [List.cons.injEq, and_true, Value.slice.injEq] at h0
    omega
  · simp only [List.cons.injEq, and_true, Value.slice.injEq] at h0
    omega
end

theorem lay_take8 {α : Type} {f : α → List Value} {w : World} {ao : Option Addr} {n k : Nat} {l : List α} (h : Lay f w ao n l) (hk : k ≤ n) : Lay f w ao k (l.take k) := by
  refine ⟨by rw [List.length_take, h.len]; omega, ?_⟩
  by_cases h0 : k = 0
  · exact .inl h0
  · obtain ⟨g, off, e, hg, hcell⟩ := h.some (by omega)
    refine .inr ⟨g, off, e, hg, fun j u hu => hcell j u ?_⟩
    have hl : l.flatMap f = (l.take k).flatMap f ++ (l.drop k).flatMap f := by rw [← List.flatMap_append, List.take_append_drop]
    rw [hl, List.getElem?_append_left (List.getElem?_eq_some_iff.1 hu).1]
    exact hu
theorem lay_drop8 {α : Type} {f : α → List Value} {w : World} {g off n k c : Nat} {l : List α} (h : Lay f w (Option.some ⟨g, off, none⟩) n l) (hc : ∀ x, (f x).length = c) (hk : k ≤ n) : Lay f w (Option.some ⟨g, off + k * c, none⟩) (n - k) (l.drop k) := by
  refine ⟨by rw [List.length_drop, h.len], ?_⟩
  by_cases h0 : n - k = 0
  · exact .inl h0
  · obtain ⟨_, _, e, hg, hcell⟩ := h.some (by omega)
    cases e
    refine .inr ⟨g, off + k * c, rfl, hg, fun j u hu => ?_⟩
    rw [Nat.add_assoc]
    refine hcell (k * c + j) u ?_
    have hl : l.flatMap f = (l.take k).flatMap f ++ (l.drop k).flatMap f := by rw [← List.flatMap_append, List.take_append_drop]
    have hlen : ((l.take k).flatMap f).length = k * c := by rw [flat_length hc, List.length_take, h.len, Nat.min_eq_left hk]
    rw [hl, List.getElem?_append_right (by omega), hlen, Nat.add_sub_cancel_left]
    exact hu
theorem lay_end {α : Type} {f : α → List Value} {w : World} {ao : Option Addr} {n k : Nat} {l : List α} (h : l.length = n) (hk : n - k = 0) : Lay f w ao (n - k) (l.drop k) := ⟨by rw [List.length_drop, h], .inl hk⟩

section
variable {α : Type} {f : α → List Value} {P : Program} {c : Nat} {e t : TypeId} {b : Nat}
/-- 'make([]T, 0, n)' -/
theorem run_make0 (hk : Kin P t e c b) (n : Nat) (hn : n ≤ 100000) (hb : b ≤ 100000) (w : World) : ∃ cur : Array Value, (Instr.makeSlice t (.int .i64 0) (.int .i64 n)).run P w = .ok (.slice (some ⟨w.heap.size, 0, none⟩) 0 n) (w.alloc (.cells cur e)) ∧ Own e c f w (w.alloc (.cells cur e)) (some ⟨w.heap.size, 0, none⟩) 0 n [] := by
  obtain ⟨i, z, hi, hz, hz1, hz2, _⟩ := hk.info
  have hb1 : i.bytes * n ≤ 281474976710656 := by
    rw [hz2]
    exact Nat.le_trans (Nat.mul_le_mul hb hn) (by decide)
  have h := run_make (P := P) w t e i z hk.und hi hz .i64 .i64 0 n (by omega) (by omega) (by rw [← Int.natCast_mul]; omega) (by omega)
  rw [Int.toNat_zero, Int.toNat_natCast, hz1] at h
  exact ⟨_, h, rfl, World.ownsRow_made w _ n (Nat.le_refl _) (by unfold maxLen; omega) (size_madeCells _ _)⟩
end
end Go.Proofs.Ythlklooaljaedaa
