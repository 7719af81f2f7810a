/- What dioramaref05.All, Same, SameHandles and Twin give. -/
import Derived.Test.YtmmflpjfgapaaaaArena1
namespace Go.Proofs.Ytmmflpjfgapaaaa
open Go.RowKit Go.ChangeShapes Go.WideShapes Go.ChangeAt
set_option linter.unusedSimpArgs false
set_option linter.unusedVariables false
attribute [local go_sem] plus_size plus_drew dn_set dn_alloc dn_plus plus_dn cell_plus frozen_plus set_plus cell_alloc frozen_alloc set_alloc

/-- the handles that are held, of the first k slots -/
def allH (l : List Sl) : Nat → List (Int × Int)
  | 0 => []
  | k + 1 => allH l k ++ (if (nth dSl l k).live = true then [((k : Int), (nth dSl l k).gen)] else [])
theorem allH_le (l : List Sl) : ∀ k, (allH l k).length ≤ k
  | 0 => Nat.le_refl _
  | k + 1 => by
    have := allH_le l k
    unfold allH
    rw [List.length_append]
    split
    · simp only [List.length_cons, List.length_nil]; omega
    · simp only [List.length_nil]; omega
def eqS (a b : Sl) : Bool := decide (a.gen = b.gen ∧ a.live = b.live)
def sameS (l l2 : List Sl) : Bool := sameL eqS dSl l l2
theorem eqS_refl (a : Sl) : eqS a a = true := by simp [eqS]
def allErr (l : List Sl) : Int := if arOk l = true then 0 else 8
def allList (l : List Sl) : List (Int × Int) := if arOk l = true then allH l l.length else []

set_option maxHeartbeats 4000000 in
theorem rsameA_calls (ao ao2 : Option Addr) (n n2 cap cap2 : Nat) (l l2 : List Sl) (w : World) (hl : Lay fS w ao n l) (hl2 : Lay fS w ao2 n2 l2) (hn : n ≤ 10000) (hn2 : n2 ≤ 10000) :
    Calls Try.prog 57 #[.agg #[.slice ao n cap], .agg #[.slice ao2 n2 cap2]] w fun e w' => e = .returned (.bool (sameS l l2)) ∧ Below w.heap.size w w' := by
  have hlen := hl.len
  have hlen2 := hl2.len
  by_cases hne : n = n2
  rotate_left
  · rw [show sameS l l2 = false from same_len (by omega)]
    have ine : ¬ (n : Int) = (n2 : Int) := by omega
    have dne : ((n : Int) == (n2 : Int)) = false := by rw [beq_eq_false_iff_ne]; omega
    go_enter Try.func57, Try.ntmps57
    go_wp2
    go_ret
    exact ⟨rfl, by with_reducible repeat (first | exact Below.refl _ _ | apply ba | apply bp | apply bd | apply bn)⟩
  subst hne
  go_enter Try.func57, Try.ntmps57
  go_wp2
  go_loopw [5] (fun i wr => ∃ k : Nat, k ≤ n ∧ i = .int .i64 k ∧ (∀ j, j < k → eqS (nth dSl l j) (nth dSl l2 j) = true) ∧ ∃ x, wr = plus ((w.alloc (.cells #[.slice ao n cap] 24)).alloc (.cells #[.slice ao2 n cap2] 24)) x) (fun i _ => n - (intOf i).toNat)
  case atStart => exact ⟨0, Nat.zero_le _, rfl, fun j hj => by omega, (by with_reducible repeat (first | exact ex_refl _ | exact ex_more | apply ex_alloc | apply ex_plus | apply ex_drew | apply ex_drewN))⟩
  case round =>
    obtain ⟨k, hk, rfl, hs, x, rfl⟩ := hrel
    by_cases hkl : k < n
    · obtain ⟨g, off, rfl, hg, hcell⟩ := hl.some (by omega)
      obtain ⟨g2, off2, rfl, hg2, hcell2⟩ := hl2.some (by omega)
      have ik : (k : Int) < (n : Int) := by omega
      obtain ⟨c0, c1⟩ := cellS hlen hcell hkl
      obtain ⟨d0, d1⟩ := cellS hlen2 hcell2 hkl
      by_cases q0 : (nth dSl l k).gen = (nth dSl l2 k).gen
      rotate_left
      · have dq : ((nth dSl l k).gen == (nth dSl l2 k).gen) = false := by simp [q0]
        go_wp2
        refine region_plus (by kernel_rfl) (by kernel_rfl) ?_
        (repeat (go_big_quiet_step (fail)))
        refine wpQuiet_nil ?_
        rintro _ ⟨x2, rfl⟩
        go_wp2
        go_ret
        exact ⟨by rw [show sameS l l2 = false from same_not (k := k) (by omega) (by simp [eqS, q0])]; rfl, by with_reducible repeat (first | exact Below.refl _ _ | apply ba | apply bp | apply bd | apply bn)⟩
      by_cases q1 : (nth dSl l k).live = (nth dSl l2 k).live
      rotate_left
      · have dq : ((nth dSl l k).live == (nth dSl l2 k).live) = false := by simp [q1]
        go_wp2
        refine region_plus (by kernel_rfl) (by kernel_rfl) ?_
        (repeat (go_big_quiet_step (fail)))
        refine wpQuiet_nil ?_
        rintro _ ⟨x2, rfl⟩
        go_wp2
        go_ret
        exact ⟨by rw [show sameS l l2 = false from same_not (k := k) (by omega) (by simp [eqS, q1])]; rfl, by with_reducible repeat (first | exact Below.refl _ _ | apply ba | apply bp | apply bd | apply bn)⟩
      go_wp2
      refine region_plus (by kernel_rfl) (by kernel_rfl) ?_
      (repeat (go_big_quiet_step (fail)))
      refine wpQuiet_nil ?_
      rintro _ ⟨x2, rfl⟩
      go_wp2
      go_roundw
      case rel => exact ⟨k + 1, by omega, by go_num, upto_succ hs (by simp [eqS, q0, q1]), (by with_reducible repeat (first | exact ex_refl _ | exact ex_more | apply ex_alloc | apply ex_plus | apply ex_drew | apply ex_drewN))⟩
      case measure => simp [intOf]; omega
    · have ik : ¬ (k : Int) < (n : Int) := by omega
      go_wp2
      go_ret
      exact ⟨by rw [show sameS l l2 = true from same_all (by omega) (fun j hj => hs j (by omega))]; rfl, by with_reducible repeat (first | exact Below.refl _ _ | apply ba | apply bp | apply bd | apply bn)⟩

end Go.Proofs.Ytmmflpjfgapaaaa
