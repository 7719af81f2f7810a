/- What the document's own functions (dioramaref01), Holds, and the small ones of the statements give. -/
import Derived.Test.YtondjoilcpcneaaFixed2
namespace Go.Proofs.Ytondjoilcpcneaa
open Go.RowKit
set_option linter.unusedSimpArgs false
attribute [local go_sem] plus_size plus_drew dn_set dn_alloc dn_plus plus_dn cell_plus frozen_plus set_plus cell_alloc frozen_alloc set_alloc

theorem holds_calls (l h n : Int) (w : World) :
    Calls Try.prog 48 #[.agg #[.int .i64 l, .int .i64 h], .int .i64 n] w fun e w' => e = .returned (.bool (inB l h n)) ∧ Below w.heap.size w w' := by
  by_cases h1 : l ≤ n
  · by_cases h2 : n ≤ h
    · rw [show inB l h n = true by simp [inB, h1, h2]]
      go_enter Try.func48, Try.ntmps48
      go_wp2
      go_ret
      exact ⟨rfl, by with_reducible repeat (first | exact Below.refl _ _ | apply ba | apply bp | apply bd | apply bn)⟩
    · rw [show inB l h n = false by simp [inB]; omega]
      go_enter Try.func48, Try.ntmps48
      go_wp2
      go_ret
      exact ⟨rfl, by with_reducible repeat (first | exact Below.refl _ _ | apply ba | apply bp | apply bd | apply bn)⟩
  · rw [show inB l h n = false by simp [inB]; omega]
    go_enter Try.func48, Try.ntmps48
    go_wp2
    go_ret
    exact ⟨rfl, by with_reducible repeat (first | exact Below.refl _ _ | apply ba | apply bp | apply bd | apply bn)⟩

theorem may_yes {l h : Int} (e : chk l h = 0) : mayB l h = true := by simp [mayB, e]
theorem may_no {l h : Int} (e : chk l h = 8) : mayB l h = false := by simp [mayB, e]

theorem rdown_calls (a b : Int) (ha : -9223372036854775808 ≤ a) (ha2 : a ≤ 9223372036854775807) (hb : 1 ≤ b) (w : World) :
    Calls Try.prog 57 #[.int .i64 a, .int .i64 b] w fun e w' => e = .returned (.int .i64 (a / b)) ∧ Below w.heap.size w w' := by
  have hd := (tdiv_bd hb ha ha2).1
  have hm := tdiv_mul_bd hb ha ha2
  have ht := tdiv_mul a b
  have HT : Hid (a.tdiv b * b = a - a.tmod b) := ht
  clear ht
  by_cases hlt : a.tmod b < 0
  · have h2 : a < a.tdiv b * b := by rw [HT.out]; omega
    have hd2 := hd hlt
    rw [← tmod_lt hb hlt]
    clear hd
    go_enter Try.func57, Try.ntmps57
    go_wp2
    go_ret
    exact ⟨rfl, by with_reducible repeat (first | exact Below.refl _ _ | apply ba | apply bp | apply bd | apply bn)⟩
  · have h2 : ¬ a < a.tdiv b * b := by rw [HT.out]; omega
    rw [← tmod_ge hb (by omega)]
    clear hd
    go_enter Try.func57, Try.ntmps57
    go_wp2
    go_ret
    exact ⟨rfl, by with_reducible repeat (first | exact Below.refl _ _ | apply ba | apply bp | apply bd | apply bn)⟩

end Go.Proofs.Ytondjoilcpcneaa
