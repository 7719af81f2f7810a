/- What box.choose, widen, corner and rowsMayBe give. -/
import Derived.Test.YtondjoilcpcneaaBox2
import Derived.BigRegion
namespace Go.Proofs.Ytondjoilcpcneaa
open Go.RowKit Go.ChangeShapes Go.WideShapes Go.ChangeAt
set_option linter.unusedSimpArgs false
set_option linter.unusedVariables false
attribute [local go_sem] plus_size plus_drew dn_set dn_alloc dn_plus plus_dn cell_plus frozen_plus set_plus cell_alloc frozen_alloc set_alloc

theorem ex_set2 {w : World} {b o b2 o2 : Nat} {v v2 : Value} (hb : b < w.heap.size) (hb2 : b2 < w.heap.size) : ∃ x, ((w.setCell ⟨b, o, none⟩ v).setCell ⟨b2, o2, none⟩ v2).drew = plus ((w.setCell ⟨b, o, none⟩ v).setCell ⟨b2, o2, none⟩ v2) x := ex_drew (ex_refl _)

theorem choose_calls (b o b2 o2 : Nat) (v h bit : Int) (w : World) (c1 : w.cell? ⟨b, o, none⟩ = some (.int .i64 v)) (f1 : w.frozen? ⟨b, o, none⟩ = false) (c2 : w.cell? ⟨b2, o2, none⟩ = some (.int .i64 h)) :
    Calls Try.prog 43 #[.pointer (some ⟨b, o, none⟩), .pointer (some ⟨b2, o2, none⟩), .int .i64 bit] w fun e w' => e = .returned (.tuple #[]) ∧ w' = if bit = 0 then w else w.setCell ⟨b, o, none⟩ (.int .i64 h) := by
  by_cases hb : bit = 0
  · subst hb
    rw [if_pos rfl]
    go_enter Try.func43, Try.ntmps43
    go_wp2
    first | exact bodyPost_end (v := .tuple #[]) (by simp [results, Try.results43, go_sem]) rfl ⟨rfl, rfl⟩ | exact bodyPost_ret (v := .tuple #[]) (by simp [results, Try.results43, go_sem]) rfl ⟨rfl, rfl⟩
  · rw [if_neg hb]
    go_enter Try.func43, Try.ntmps43
    go_wp2
    first | exact bodyPost_end (v := .tuple #[]) (by simp [results, Try.results43, go_sem]) rfl ⟨rfl, rfl⟩ | exact bodyPost_ret (v := .tuple #[]) (by simp [results, Try.results43, go_sem]) rfl ⟨rfl, rfl⟩

theorem widen_calls (b o b2 o2 : Nat) (l h n : Int) (w : World) (c1 : w.cell? ⟨b, o, none⟩ = some (.int .i64 l)) (f1 : w.frozen? ⟨b, o, none⟩ = false) (c2 : w.cell? ⟨b2, o2, none⟩ = some (.int .i64 h)) (f2 : w.frozen? ⟨b2, o2, none⟩ = false)
    (hb : b < w.heap.size) (hb2 : b2 < w.heap.size) (hne : o ≠ o2) :
    Calls Try.prog 44 #[.pointer (some ⟨b, o, none⟩), .pointer (some ⟨b2, o2, none⟩), .int .i64 n] w fun e w' => e = .returned (.tuple #[]) ∧ ∃ x, w' = plus ((w.setCell ⟨b, o, none⟩ (.int .i64 (min l n))).setCell ⟨b2, o2, none⟩ (.int .i64 (max h n))) x := by
  by_cases h1 : n < l
  · rw [Int.min_eq_right (show n ≤ l by omega)]
    by_cases h2 : h < n
    · rw [Int.max_eq_right (show h ≤ n by omega)]
      go_enter Try.func44, Try.ntmps44
      go_wp2
      go_region
      all_goals go_wp2
      all_goals
        first | exact bodyPost_end (v := .tuple #[]) (by simp [results, Try.results44, go_sem]) rfl ⟨rfl, ex_set2 hb hb2⟩ | exact bodyPost_ret (v := .tuple #[]) (by simp [results, Try.results44, go_sem]) rfl ⟨rfl, ex_set2 hb hb2⟩
    · rw [Int.max_eq_left (show n ≤ h by omega)]
      go_enter Try.func44, Try.ntmps44
      go_wp2
      go_region
      all_goals go_wp2
      all_goals
        first | exact bodyPost_end (v := .tuple #[]) (by simp [results, Try.results44, go_sem]) rfl ⟨rfl, ex_set2 hb hb2⟩ | exact bodyPost_ret (v := .tuple #[]) (by simp [results, Try.results44, go_sem]) rfl ⟨rfl, ex_set2 hb hb2⟩
  · rw [Int.min_eq_left (show l ≤ n by omega)]
    by_cases h2 : h < n
    · rw [Int.max_eq_right (show h ≤ n by omega)]
      go_enter Try.func44, Try.ntmps44
      go_wp2
      go_region
      all_goals go_wp2
      all_goals
        first | exact bodyPost_end (v := .tuple #[]) (by simp [results, Try.results44, go_sem]) rfl ⟨rfl, ex_set2 hb hb2⟩ | exact bodyPost_ret (v := .tuple #[]) (by simp [results, Try.results44, go_sem]) rfl ⟨rfl, ex_set2 hb hb2⟩
    · rw [Int.max_eq_left (show n ≤ h by omega)]
      go_enter Try.func44, Try.ntmps44
      go_wp2
      go_region
      all_goals go_wp2
      all_goals
        first | exact bodyPost_end (v := .tuple #[]) (by simp [results, Try.results44, go_sem]) rfl ⟨rfl, ex_set2 hb hb2⟩ | exact bodyPost_ret (v := .tuple #[]) (by simp [results, Try.results44, go_sem]) rfl ⟨rfl, ex_set2 hb hb2⟩

end Go.Proofs.Ytondjoilcpcneaa
