/- Arguments that are numbers all through (structs and arrays of them, nested): opened into their numbers, with their bounds. -/
import Derived.Test.YtimmbpcoagjcbaaLaw
namespace Go.Proofs.Ytimmbpcoagjcbaa
open Go.RowKit Go.ChangeShapes Go.WideShapes Go.ChangeAt

def flatB (P : Program) : Nat → TypeId → Bool
  | 0, _ => false
  | k + 1, t => match P.underlying t with
    | some (.int .i64) => true
    | some (.struct fs) => fs.toList.all (fun f => flatB P k f.type) && (List.range (P.cellsOf t)).all fun j => fs.toList.any fun f => decide (f.offset ≤ j) && decide (j < f.offset + P.cellsOf f.type)
    | some (.array n e) => flatB P k e && (List.range (P.cellsOf t)).all fun j => (List.range n).any fun i => decide (i * P.cellsOf e ≤ j) && decide (j < i * P.cellsOf e + P.cellsOf e)
    | _ => false
def aggB (P : Program) (t : TypeId) : Bool := match P.underlying t with | some (.struct _) | some (.array _ _) => true | _ => false

section
variable {H : Type} {enc : TypeId × Value → H} {P : Program} {W : World} {base : Nat} {spare : Nat → Bool} {held : Bool}

theorem mem_part {cs : List Value} {j o s : Nat} {c : Value} (hc : cs[j]? = some c) (h1 : o ≤ j) (h2 : j < o + s) : c ∈ (cs.drop o).take s := by
  apply List.mem_of_getElem? (i := j - o)
  rw [List.getElem?_take, if_pos (by omega), List.getElem?_drop, show o + (j - o) = j by omega]
  exact hc

theorem flat_ints : ∀ (k : Nat) (t : TypeId) (fuel : Nat) (cs : List Value) (x : DataW H × List MemPlace), flatB P k t = true → DataW.trod enc P W base spare held fuel t cs = some x →
    ∀ c ∈ cs, ∃ n : Int, c = .int .i64 n ∧ -9223372036854775808 ≤ n ∧ n ≤ 9223372036854775807
  | 0, _, _, _, _, hf, _ => by simp [flatB] at hf
  | k + 1, t, fuel, cs, x, hf, h => by
    intro c hc
    obtain ⟨j, hj⟩ := List.getElem?_of_mem hc
    unfold flatB at hf
    split at hf
    · rename_i hu
      obtain ⟨n, e, _, hw⟩ := DataW.trod_int hu h
      subst e
      simp only [List.mem_singleton] at hc
      exact ⟨n, hc, bounds_i64 hw⟩
    · rename_i fs hu
      obtain ⟨xs, m, rfl, _, hl, hxl, hall⟩ := DataW.trod_struct hu h
      simp only [Bool.and_eq_true] at hf
      have hjl : j < cs.length := (List.getElem?_eq_some_iff.1 hj).1
      obtain ⟨f, hfm, hin⟩ := List.any_eq_true.1 (List.all_eq_true.1 hf.2 j (List.mem_range.2 (by omega)))
      simp only [Bool.and_eq_true, decide_eq_true_eq] at hin
      obtain ⟨i, hi⟩ := List.getElem?_of_mem hfm
      have hff := List.all_eq_true.1 hf.1 f hfm
      have hfi : fs[i]? = some f := by simpa using hi
      have hil : i < fs.size := (Array.getElem?_eq_some_iff.1 hfi).1
      have hy := hall i f hfi
      rw [List.getElem?_eq_getElem (by omega)] at hy
      exact flat_ints k f.type m _ _ hff hy c (mem_part hj hin.1 hin.2)
    · rename_i n e hu
      obtain ⟨xs, m, rfl, _, hl, hxl, hall⟩ := DataW.trod_array hu h
      simp only [Bool.and_eq_true] at hf
      have hjl : j < cs.length := (List.getElem?_eq_some_iff.1 hj).1
      obtain ⟨i, him, hin⟩ := List.any_eq_true.1 (List.all_eq_true.1 hf.2 j (List.mem_range.2 (by omega)))
      simp only [Bool.and_eq_true, decide_eq_true_eq] at hin
      have hi := List.mem_range.1 him
      have hy := hall i hi
      rw [List.getElem?_eq_getElem (by omega)] at hy
      exact flat_ints k e m _ _ hf.1 hy c (mem_part hj hin.1 hin.2)
    · cases hf

theorem ints_list : ∀ (cs : List Value), (∀ c ∈ cs, ∃ n : Int, c = .int .i64 n ∧ -9223372036854775808 ≤ n ∧ n ≤ 9223372036854775807) →
    ∃ ns : List Int, cs = ns.map (Value.int .i64) ∧ ∀ n ∈ ns, -9223372036854775808 ≤ n ∧ n ≤ 9223372036854775807
  | [], _ => ⟨[], rfl, by simp⟩
  | c :: cs, h => by
    obtain ⟨n, rfl, hb⟩ := h c List.mem_cons_self
    obtain ⟨ns, rfl, hbs⟩ := ints_list cs (fun c' hc' => h c' (List.mem_cons_of_mem _ hc'))
    exact ⟨n :: ns, rfl, fun m hm => (List.mem_cons.1 hm).elim (fun e => e ▸ hb) (hbs m)⟩

theorem open_flat {k : Nat} {W : World} {r : Reach} {b0 : Nat} {t : TypeId} {v : Value} {d : DataW H} {p : List MemPlace} (hf : flatB P k t = true) (ha : aggB P t = true)
    (hv : Value.okWide P W r b0 t v) (h : DataW.Trod enc P W base spare held t v d p) :
    ∃ ns : List Int, v = .agg (ns.map (Value.int .i64)).toArray ∧ ns.length = P.cellsOf t ∧ ∀ n ∈ ns, -9223372036854775808 ≤ n ∧ n ≤ 9223372036854775807 := by
  obtain ⟨cs, rfl, hsz⟩ : ∃ cs, v = .agg cs ∧ cs.size = P.cellsOf t := by
    unfold Value.okWide at hv
    unfold aggB at ha
    split at ha
    · rename_i hu; simp only [hu] at hv; obtain ⟨cs, h1, h2, _⟩ := hv; exact ⟨cs, h1, h2⟩
    · rename_i hu; simp only [hu] at hv; obtain ⟨cs, h1, h2, _⟩ := hv; exact ⟨cs, h1, h2⟩
    · cases ha
  obtain ⟨fuel, hx⟩ := h
  obtain ⟨ns, hns, hb⟩ := ints_list _ (flat_ints k t fuel _ _ hf hx)
  refine ⟨ns, ?_, ?_, hb⟩
  · congr 1
    apply Array.toList_inj.1
    simpa [Value.cells] using hns
  · have := congrArg List.length hns
    simp [Value.cells] at this
    omega

theorem open_flat3 {k : Nat} {W : World} {r : Reach} {b0 : Nat} {t : TypeId} {v : Value} {d : DataW H} {p : List MemPlace} (hf : flatB P k t = true) (ha : aggB P t = true) (hc : P.cellsOf t = 3)
    (hv : Value.okWide P W r b0 t v) (h : DataW.Trod enc P W base spare held t v d p) :
    ∃ a0 a1 a2 : Int, v = .agg #[.int .i64 a0, .int .i64 a1, .int .i64 a2] ∧ (-9223372036854775808 ≤ a0 ∧ a0 ≤ 9223372036854775807) ∧ (-9223372036854775808 ≤ a1 ∧ a1 ≤ 9223372036854775807) ∧ (-9223372036854775808 ≤ a2 ∧ a2 ≤ 9223372036854775807) := by
  obtain ⟨ns, hv, hl, hb⟩ := open_flat hf ha hv h
  rw [hc] at hl
  match ns, hl, hb with
  | [a0, a1, a2], _, hb => exact ⟨a0, a1, a2, hv, hb _ (by simp), hb _ (by simp), hb _ (by simp)⟩

theorem open_flat6 {k : Nat} {W : World} {r : Reach} {b0 : Nat} {t : TypeId} {v : Value} {d : DataW H} {p : List MemPlace} (hf : flatB P k t = true) (ha : aggB P t = true) (hc : P.cellsOf t = 6)
    (hv : Value.okWide P W r b0 t v) (h : DataW.Trod enc P W base spare held t v d p) :
    ∃ a0 a1 a2 a3 a4 a5 : Int, v = .agg #[.int .i64 a0, .int .i64 a1, .int .i64 a2, .int .i64 a3, .int .i64 a4, .int .i64 a5] ∧ (-9223372036854775808 ≤ a0 ∧ a0 ≤ 9223372036854775807) ∧ (-9223372036854775808 ≤ a1 ∧ a1 ≤ 9223372036854775807) ∧ (-9223372036854775808 ≤ a2 ∧ a2 ≤ 9223372036854775807) ∧ (-9223372036854775808 ≤ a3 ∧ a3 ≤ 9223372036854775807) ∧ (-9223372036854775808 ≤ a4 ∧ a4 ≤ 9223372036854775807) ∧ (-9223372036854775808 ≤ a5 ∧ a5 ≤ 9223372036854775807) := by
  obtain ⟨ns, hv, hl, hb⟩ := open_flat hf ha hv h
  rw [hc] at hl
  match ns, hl, hb with
  | [a0, a1, a2, a3, a4, a5], _, hb => exact ⟨a0, a1, a2, a3, a4, a5, hv, hb _ (by simp), hb _ (by simp), hb _ (by simp), hb _ (by simp), hb _ (by simp), hb _ (by simp)⟩

theorem open_flat9 {k : Nat} {W : World} {r : Reach} {b0 : Nat} {t : TypeId} {v : Value} {d : DataW H} {p : List MemPlace} (hf : flatB P k t = true) (ha : aggB P t = true) (hc : P.cellsOf t = 9)
    (hv : Value.okWide P W r b0 t v) (h : DataW.Trod enc P W base spare held t v d p) :
    ∃ a0 a1 a2 a3 a4 a5 a6 a7 a8 : Int, v = .agg #[.int .i64 a0, .int .i64 a1, .int .i64 a2, .int .i64 a3, .int .i64 a4, .int .i64 a5, .int .i64 a6, .int .i64 a7, .int .i64 a8] ∧ (-9223372036854775808 ≤ a0 ∧ a0 ≤ 9223372036854775807) ∧ (-9223372036854775808 ≤ a1 ∧ a1 ≤ 9223372036854775807) ∧ (-9223372036854775808 ≤ a2 ∧ a2 ≤ 9223372036854775807) ∧ (-9223372036854775808 ≤ a3 ∧ a3 ≤ 9223372036854775807) ∧ (-9223372036854775808 ≤ a4 ∧ a4 ≤ 9223372036854775807) ∧ (-9223372036854775808 ≤ a5 ∧ a5 ≤ 9223372036854775807) ∧ (-9223372036854775808 ≤ a6 ∧ a6 ≤ 9223372036854775807) ∧ (-9223372036854775808 ≤ a7 ∧ a7 ≤ 9223372036854775807) ∧ (-9223372036854775808 ≤ a8 ∧ a8 ≤ 9223372036854775807) := by
  obtain ⟨ns, hv, hl, hb⟩ := open_flat hf ha hv h
  rw [hc] at hl
  match ns, hl, hb with
  | [a0, a1, a2, a3, a4, a5, a6, a7, a8], _, hb => exact ⟨a0, a1, a2, a3, a4, a5, a6, a7, a8, hv, hb _ (by simp), hb _ (by simp), hb _ (by simp), hb _ (by simp), hb _ (by simp), hb _ (by simp), hb _ (by simp), hb _ (by simp), hb _ (by simp)⟩

theorem open_flat12 {k : Nat} {W : World} {r : Reach} {b0 : Nat} {t : TypeId} {v : Value} {d : DataW H} {p : List MemPlace} (hf : flatB P k t = true) (ha : aggB P t = true) (hc : P.cellsOf t = 12)
    (hv : Value.okWide P W r b0 t v) (h : DataW.Trod enc P W base spare held t v d p) :
    ∃ a0 a1 a2 a3 a4 a5 a6 a7 a8 a9 a10 a11 : Int, v = .agg #[.int .i64 a0, .int .i64 a1, .int .i64 a2, .int .i64 a3, .int .i64 a4, .int .i64 a5, .int .i64 a6, .int .i64 a7, .int .i64 a8, .int .i64 a9, .int .i64 a10, .int .i64 a11] ∧ (-9223372036854775808 ≤ a0 ∧ a0 ≤ 9223372036854775807) ∧ (-9223372036854775808 ≤ a1 ∧ a1 ≤ 9223372036854775807) ∧ (-9223372036854775808 ≤ a2 ∧ a2 ≤ 9223372036854775807) ∧ (-9223372036854775808 ≤ a3 ∧ a3 ≤ 9223372036854775807) ∧ (-9223372036854775808 ≤ a4 ∧ a4 ≤ 9223372036854775807) ∧ (-9223372036854775808 ≤ a5 ∧ a5 ≤ 9223372036854775807) ∧ (-9223372036854775808 ≤ a6 ∧ a6 ≤ 9223372036854775807) ∧ (-9223372036854775808 ≤ a7 ∧ a7 ≤ 9223372036854775807) ∧ (-9223372036854775808 ≤ a8 ∧ a8 ≤ 9223372036854775807) ∧ (-9223372036854775808 ≤ a9 ∧ a9 ≤ 9223372036854775807) ∧ (-9223372036854775808 ≤ a10 ∧ a10 ≤ 9223372036854775807) ∧ (-9223372036854775808 ≤ a11 ∧ a11 ≤ 9223372036854775807) := by
  obtain ⟨ns, hv, hl, hb⟩ := open_flat hf ha hv h
  rw [hc] at hl
  match ns, hl, hb with
  | [a0, a1, a2, a3, a4, a5, a6, a7, a8, a9, a10, a11], _, hb => exact ⟨a0, a1, a2, a3, a4, a5, a6, a7, a8, a9, a10, a11, hv, hb _ (by simp), hb _ (by simp), hb _ (by simp), hb _ (by simp), hb _ (by simp), hb _ (by simp), hb _ (by simp), hb _ (by simp), hb _ (by simp), hb _ (by simp), hb _ (by simp), hb _ (by simp)⟩
end
end Go.Proofs.Ytimmbpcoagjcbaa
