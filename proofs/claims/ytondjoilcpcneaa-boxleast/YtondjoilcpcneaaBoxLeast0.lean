/- For BoxLeast: what Of and Join tell, in the forms that its walk takes. -/
import Derived.Test.YtondjoilcpcneaaFlat
import Derived.Test.YtondjoilcpcneaaPts
import Derived.Test.YtondjoilcpcneaaBoxA
import Derived.Test.YtondjoilcpcneaaBoxJ
namespace Go.Proofs.Ytondjoilcpcneaa
open Go.RowKit Go.ChangeShapes Go.WideShapes Go.ChangeAt
set_option linter.unusedSimpArgs false
set_option linter.unusedVariables false
attribute [local go_sem] plus_size plus_drew dn_set dn_alloc dn_plus plus_dn cell_plus frozen_plus set_plus cell_alloc frozen_alloc set_alloc

theorem of_any (ao : Option Addr) (n cap : Nat) (q : Nat → V3) (w : World) (hn : n ≤ 10000) (h : n = 0 ∨ ∃ g off, ao = some ⟨g, off, none⟩ ∧ Lies w g off n q) :
    Calls Try.prog 13 #[.slice ao n cap] w fun e w' => e = .returned (.tuple #[.agg #[.int .i64 ((ofR q n).1).lo.x, .int .i64 ((ofR q n).1).lo.y, .int .i64 ((ofR q n).1).lo.z, .int .i64 ((ofR q n).1).hi.x, .int .i64 ((ofR q n).1).hi.y, .int .i64 ((ofR q n).1).hi.z], .int .i64 (ofR q n).2]) ∧ Below w.heap.size w w' := by
  by_cases h1 : n < 1 ∨ 4096 < n
  · exact of_many ao n cap q w hn h1
  · rcases h with h | ⟨g, off, rfl, hl⟩
    · omega
    · exact of_some g off n cap q w (by omega) (by omega) hl
theorem lies_ex {w w' : World} {ao : Option Addr} {n : Nat} {q : Nat → V3} (h : n = 0 ∨ ∃ g off, ao = some ⟨g, off, none⟩ ∧ Lies w g off n q) (hw : ∃ x, w' = plus w x) : n = 0 ∨ ∃ g off, ao = some ⟨g, off, none⟩ ∧ Lies w' g off n q := by
  rcases h with h | ⟨g, off, e, hl⟩
  · exact .inl h
  · exact .inr ⟨g, off, e, hl.ex hw⟩
theorem ofR_or (q : Nat → V3) (n : Nat) : (ofR q n = (lst q n, 0) ∧ 0 < n) ∨ ∃ m, ofR q n = (⟨⟨0, 0, 0⟩, ⟨0, 0, 0⟩⟩, m) ∧ m ≠ 0 := by
  unfold ofR
  split
  · exact .inr ⟨4, rfl, by decide⟩
  · split
    · exact .inl ⟨rfl, by omega⟩
    · exact .inr ⟨20, rfl, by decide⟩
theorem joinR_or (a b : B6) : joinR a b = (joinBx a b, 0) ∨ ∃ m, joinR a b = (⟨⟨0, 0, 0⟩, ⟨0, 0, 0⟩⟩, m) ∧ m ≠ 0 := by
  unfold joinR
  split
  · exact .inl rfl
  · exact .inr ⟨8, rfl, by decide⟩
/-- a holds the first k points -/
def allIn (a : B6) (q : Nat → V3) : Nat → Bool
  | 0 => true
  | k + 1 => allIn a q k && holdsBx a (q k)
theorem allIn_at {a : B6} {q : Nat → V3} : ∀ n, allIn a q n = true → ∀ k, k < n → holdsBx a (q k) = true
  | 0, _, k, hk => by omega
  | n + 1, h, k, hk => by
    simp only [allIn, Bool.and_eq_true] at h
    by_cases e : k = n
    · subst e; exact h.2
    · exact allIn_at n h.1 k (by omega)

end Go.Proofs.Ytondjoilcpcneaa
