/- Arguments whose cells are numbers of 64 bits, numbers of eight bits and Booleans (structs and arrays of them, nested): of each cell what it is. -/
import Derived.Test.YtimmbpcoagjcbaaOpen
namespace Go.Proofs.Ytimmbpcoagjcbaa
open Go.RowKit Go.ChangeShapes Go.WideShapes Go.ChangeAt

/-- what the cell j of a type is: 0 a number of 64 bits, 1 of eight, 2 a Boolean; 3: not told -/
def kindAt (P : Program) : Nat → TypeId → Nat → Nat
  | 0, _, _ => 3
  | k + 1, t, j => match P.underlying t with
    | some (.int .i64) => 0
    | some (.int .u8) => 1
    | some .bool => 2
    | some (.struct fs) => match fs.toList.find? (fun f => decide (f.offset ≤ j) && decide (j < f.offset + P.cellsOf f.type)) with
      | some f => kindAt P k f.type (j - f.offset)
      | none => 3
    | some (.array n e) => match (List.range n).find? (fun i => decide (i * P.cellsOf e ≤ j) && decide (j < i * P.cellsOf e + P.cellsOf e)) with
      | some i => kindAt P k e (j - i * P.cellsOf e)
      | none => 3
    | _ => 3
def isKind : Nat → Value → Prop
  | 0, c => ∃ n : Int, c = .int .i64 n
  | 1, c => ∃ n : Int, c = .int .u8 n ∧ 0 ≤ n ∧ n ≤ 255
  | 2, c => ∃ b : Bool, c = .bool b
  | _, _ => True

section
variable {H : Type} {enc : TypeId × Value → H} {P : Program} {W : World} {base : Nat} {spare : Nat → Bool} {held : Bool}

theorem part_at {cs : List Value} {j o s : Nat} {c : Value} (hc : cs[j]? = some c) (h1 : o ≤ j) (h2 : j < o + s) : ((cs.drop o).take s)[j - o]? = some c := by
  rw [List.getElem?_take, if_pos (by omega), List.getElem?_drop, show o + (j - o) = j by omega]
  exact hc

theorem mix_cell : ∀ (k : Nat) (t : TypeId) (fuel : Nat) (cs : List Value) (x : DataW H × List MemPlace), DataW.trod enc P W base spare held fuel t cs = some x →
    ∀ j c, cs[j]? = some c → isKind (kindAt P k t j) c
  | 0, _, _, _, _, _ => fun _ _ _ => trivial
  | k + 1, t, fuel, cs, x, h => by
    intro j c hj
    unfold kindAt
    split
    · rename_i hu
      obtain ⟨n, e, _, hw⟩ := DataW.trod_int hu h
      subst e
      obtain ⟨rfl, rfl⟩ : j = 0 ∧ c = .int .i64 n := by
        cases j with
        | zero => simpa [eq_comm] using hj
        | succ j => simp at hj
      exact ⟨n, rfl⟩
    · rename_i hu
      obtain ⟨n, e, _, hw⟩ := DataW.trod_int hu h
      subst e
      obtain ⟨rfl, rfl⟩ : j = 0 ∧ c = .int .u8 n := by
        cases j with
        | zero => simpa [eq_comm] using hj
        | succ j => simp at hj
      exact ⟨n, rfl, (bounds_u8 hw).1, (bounds_u8 hw).2⟩
    · rename_i hu
      obtain ⟨b, e, _⟩ := DataW.trod_bool hu h
      subst e
      obtain ⟨rfl, rfl⟩ : j = 0 ∧ c = .bool b := by
        cases j with
        | zero => simpa [eq_comm] using hj
        | succ j => simp at hj
      exact ⟨b, rfl⟩
    · rename_i fs hu
      obtain ⟨xs, m, rfl, _, hl, hxl, hall⟩ := DataW.trod_struct hu h
      split
      · rename_i f hfd
        have hfm := List.mem_of_find?_eq_some hfd
        have hin := List.find?_some hfd
        simp only [Bool.and_eq_true, decide_eq_true_eq] at hin
        obtain ⟨i, hi⟩ := List.getElem?_of_mem hfm
        have hfi : fs[i]? = some f := by simpa using hi
        have hil : i < fs.size := (Array.getElem?_eq_some_iff.1 hfi).1
        have hy := hall i f hfi
        rw [List.getElem?_eq_getElem (by omega)] at hy
        exact mix_cell k f.type m _ _ hy _ c (part_at hj hin.1 hin.2)
      · trivial
    · rename_i n e hu
      obtain ⟨xs, m, rfl, _, hl, hxl, hall⟩ := DataW.trod_array hu h
      split
      · rename_i i hfd
        have hi := List.mem_range.1 (List.mem_of_find?_eq_some hfd)
        have hin := List.find?_some hfd
        simp only [Bool.and_eq_true, decide_eq_true_eq] at hin
        have hy := hall i hi
        rw [List.getElem?_eq_getElem (by omega)] at hy
        exact mix_cell k e m _ _ hy _ c (part_at hj hin.1 hin.2)
      · trivial
    · trivial

/-- an argument that is a struct or an array: its cells -/
theorem open_agg {W : World} {r : Reach} {b0 : Nat} {t : TypeId} {v : Value} {d : DataW H} {p : List MemPlace} (ha : aggB P t = true)
    (hv : Value.okWide P W r b0 t v) (h : DataW.Trod enc P W base spare held t v d p) :
    ∃ (cs : List Value) (fuel : Nat) (x : DataW H × List MemPlace), v = .agg cs.toArray ∧ cs.length = P.cellsOf t ∧ DataW.trod enc P W base spare held fuel t cs = some x := by
  obtain ⟨cs, rfl, hsz⟩ : ∃ cs, v = .agg cs ∧ cs.size = P.cellsOf t := by
    unfold Value.okWide at hv
    unfold aggB at ha
    split at ha
    · rename_i hu; simp only [hu] at hv; obtain ⟨cs, h1, h2, _⟩ := hv; exact ⟨cs, h1, h2⟩
    · rename_i hu; simp only [hu] at hv; obtain ⟨cs, h1, h2, _⟩ := hv; exact ⟨cs, h1, h2⟩
    · cases ha
  obtain ⟨fuel, hx⟩ := h
  exact ⟨cs.toList, fuel, _, by simp, by simpa using hsz, by simpa [Value.cells] using hx⟩
end

end Go.Proofs.Ytimmbpcoagjcbaa
