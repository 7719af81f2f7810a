/- What lies in a slot, in a handle; what dioramaref05.May, Check, Held and Holds give. -/
import Derived.Test.YtmmflpjfgapaaaaProg
import Derived.Test.YtmmflpjfgapaaaaArenaMath
import Derived.Test.YtmmflpjfgapaaaaOwn2
import Derived.Test.YtmmflpjfgapaaaaRel2
import Derived.Test.YtmmflpjfgapaaaaLay2
import Derived.Test.YtmmflpjfgapaaaaMeshMath2
namespace Go.Proofs.Ytmmflpjfgapaaaa
open Go.RowKit Go.ChangeShapes Go.WideShapes Go.ChangeAt
set_option linter.unusedSimpArgs false
set_option linter.unusedVariables false
attribute [local go_sem] plus_size plus_drew dn_set dn_alloc dn_plus plus_dn cell_plus frozen_plus set_plus cell_alloc frozen_alloc set_alloc

theorem wrap_le {n : Int} (h : 0 ≤ n ∧ n ≤ 9223372036854775807) : IntKind.i64.wrap n = n := by
  simp [IntKind.wrap, IntKind.bits, IntKind.signed]
  omega
theorem ex_more {T : World} {x : List More} {d : Nat} : ∃ y, plus T [⟨blocks x, d⟩] = plus (plus T x) y := ⟨[⟨#[], d⟩], by simp [plus, blocks, draws]⟩
theorem info_parts' {P : Program} {e : TypeId} {z : Value} {c b : Nat} (h : (P.info? e).map (fun i => (i.zero, i.size, i.bytes)) = some (some z, c, b)) (hc : z.cells.size = c) : ∃ i z, P.info? e = some i ∧ i.zero = some z ∧ i.size = c ∧ i.bytes = b ∧ z.cells.size = c := by
  obtain ⟨i0, hi, hz0, hz1, hz2⟩ := info_parts h
  exact ⟨i0, z, hi, hz0, hz1, hz2, hc⟩

theorem kinS : Kin Try.prog 22 67 2 16 := ⟨Try.underlying22, info_parts' (z := .agg #[.int .i64 0, .bool false]) (by kernel_rfl) rfl, by decide⟩
theorem kinH : Kin Try.prog 36 29 2 16 := ⟨Try.underlying36, info_parts' (z := .agg #[.int .i64 0, .int .i64 0]) (by kernel_rfl) rfl, by decide⟩

def fS (s : Sl) : List Value := [.int .i64 s.gen, .bool s.live]
theorem fS_c : ∀ x, (fS x).length = 2 := fun _ => rfl
theorem fS_1 : ∀ x, ∀ u ∈ fS x, u.oneCell' = true := by intro x u hu; simp only [fS, List.mem_cons, List.not_mem_nil, or_false] at hu; rcases hu with rfl | rfl <;> rfl
theorem cellS {w : World} {g off n k : Nat} {l : List Sl} (hl : l.length = n) (h : ∀ j u, (l.flatMap fS)[j]? = some u → w.cell? ⟨g, off + j, none⟩ = some u) (hk : k < n) :
    w.cell? ⟨g, off + k * 2, none⟩ = some (.int .i64 (nth dSl l k).gen) ∧ w.cell? ⟨g, off + k * 2 + 1, none⟩ = some (.bool (nth dSl l k).live) := by
  have h0 := cell_nth (d := dSl) hl fS_c h k 0 _ hk (by decide) rfl
  have h1 := cell_nth (d := dSl) hl fS_c h k 1 _ hk (by decide) rfl
  rw [Nat.add_zero] at h0
  rw [← Nat.add_assoc] at h1
  exact ⟨h0, h1⟩
theorem upto_succ {p : Nat → Prop} {k : Nat} (h : ∀ j, j < k → p j) (hk : p k) : ∀ j, j < k + 1 → p j := by
  intro j hj
  rcases Nat.lt_or_eq_of_le (Nat.le_of_lt_succ hj) with e | e
  · exact h j e
  · exact e ▸ hk
theorem all_bad {α : Type} {p : α → Bool} {d : α} {l : List α} {k : Nat} (hk : k < l.length) (h : p (nth d l k) = false) : l.all p = false := all_not hk h

set_option maxHeartbeats 2000000 in
theorem amay_calls (ao : Option Addr) (n cap : Nat) (l : List Sl) (w : World) (hl : Lay fS w ao n l) (hn : n ≤ 9223372036854775807) :
    Calls Try.prog 74 #[.agg #[.slice ao n cap]] w fun e w' => e = .returned (.bool (arOk l)) ∧ Below w.heap.size w w' := by
  have hlen := hl.len
  go_enter Try.func74, Try.ntmps74
  go_wp2
  go_loopw [3] (fun i wr => ∃ k : Nat, k ≤ n ∧ i = .int .i64 k ∧ (∀ j, j < k → slOk (nth dSl l j) = true) ∧ ∃ x, wr = plus (w.alloc (.cells #[.slice ao n cap] 24)) x) (fun i _ => n - (intOf i).toNat)
  case atStart => exact ⟨0, Nat.zero_le _, rfl, fun j hj => by omega, (by with_reducible repeat (first | exact ex_refl _ | exact ex_more | apply ex_alloc | apply ex_plus | apply ex_drew | apply ex_drewN))⟩
  case round =>
    obtain ⟨k, hk, rfl, hs, x, rfl⟩ := hrel
    by_cases hkl : k < n
    · obtain ⟨g, off, rfl, hg, hcell⟩ := hl.some (by omega)
      obtain ⟨c0, c1⟩ := cellS hlen hcell hkl
      have ik : (k : Int) < (n : Int) := by omega
      by_cases h1 : (nth dSl l k).gen < 1
      · have hno : arOk l = false := by rw [arOk, all_bad (d := dSl) (k := k) (by omega) (by simp [slOk]; omega), Bool.false_and]
        go_wp2
        go_ret
        exact ⟨by first | rfl | (rw [hno]; rfl), by with_reducible repeat (first | exact Below.refl _ _ | apply ba | apply bp | apply bd | apply bn)⟩
      have d1 := decide_eq_false h1
      by_cases h2 : 1073741824 < (nth dSl l k).gen
      · have hno : arOk l = false := by rw [arOk, all_bad (d := dSl) (k := k) (by omega) (by simp [slOk]; omega), Bool.false_and]
        go_wp2
        go_ret
        exact ⟨by first | rfl | (rw [hno]; rfl), by with_reducible repeat (first | exact Below.refl _ _ | apply ba | apply bp | apply bd | apply bn)⟩
      · have d2 := decide_eq_false h2
        have hok : slOk (nth dSl l k) = true := by simp [slOk]; omega
        go_wp2
        go_roundw
        case rel => exact ⟨k + 1, by omega, by go_num, upto_succ hs hok, (by with_reducible repeat (first | exact ex_refl _ | exact ex_more | apply ex_alloc | apply ex_plus | apply ex_drew | apply ex_drewN))⟩
        case measure => simp [intOf]; omega
    · have ik : ¬ (k : Int) < (n : Int) := by omega
      have hall : l.all slOk = true := all_yes (d := dSl) (fun j hj => hs j (by omega))
      by_cases h3 : n ≤ 128
      · have i3 : (n : Int) ≤ 128 := by omega
        go_wp2
        go_ret
        exact ⟨by rw [arOk, hall, hlen, decide_eq_true h3]; rfl, by with_reducible repeat (first | exact Below.refl _ _ | apply ba | apply bp | apply bd | apply bn)⟩
      · have i3 : ¬ (n : Int) ≤ 128 := by omega
        have d3 := decide_eq_false i3
        go_wp2
        go_ret
        exact ⟨by rw [arOk, hall, hlen, decide_eq_false h3]; rfl, by with_reducible repeat (first | exact Below.refl _ _ | apply ba | apply bp | apply bd | apply bn)⟩

set_option maxRecDepth 100000 in
set_option maxHeartbeats 2000000 in
theorem aheld_calls (ao : Option Addr) (n cap : Nat) (l : List Sl) (s g : Int) (w : World) (hl : Lay fS w ao n l) (hn : n ≤ 9223372036854775807) :
    Calls Try.prog 75 #[.agg #[.slice ao n cap], .agg #[.int .i64 s, .int .i64 g]] w fun e w' => e = .returned (.bool (heldIn l s g)) ∧ Below w.heap.size w w' := by
  have hlen := hl.len
  by_cases h0 : 0 ≤ s
  rotate_left
  · rw [show heldIn l s g = false by simp [heldIn, h0]]
    have d0 : decide (0 ≤ s) = false := decide_eq_false h0
    go_enter Try.func75, Try.ntmps75
    go_wp2
    refine region_plus (by kernel_rfl) (by kernel_rfl) ?_
    (repeat (go_big_quiet_step (fail)))
    refine wpQuiet_nil ?_
    rintro _ ⟨x2, rfl⟩
    go_wp2
    go_ret
    exact ⟨rfl, by with_reducible repeat (first | exact Below.refl _ _ | apply ba | apply bp | apply bd | apply bn)⟩
  by_cases h1 : s < n
  rotate_left
  · rw [show heldIn l s g = false by simp [heldIn, hlen, h1]]
    have d1 : decide (s < (n : Int)) = false := decide_eq_false h1
    go_enter Try.func75, Try.ntmps75
    go_wp2
    refine region_plus (by kernel_rfl) (by kernel_rfl) ?_
    (repeat (go_big_quiet_step (fail)))
    refine wpQuiet_nil ?_
    rintro _ ⟨x2, rfl⟩
    go_wp2
    go_ret
    exact ⟨rfl, by with_reducible repeat (first | exact Below.refl _ _ | apply ba | apply bp | apply bd | apply bn)⟩
  obtain ⟨k, rfl⟩ : ∃ k : Nat, s = (k : Int) := ⟨s.toNat, by omega⟩
  obtain ⟨gm, off, rfl, hg, hcell⟩ := hl.some (by omega)
  obtain ⟨c0, c1⟩ := cellS hlen hcell (k := k) (by omega)
  cases h2 : (nth dSl l k).live
  · rw [show heldIn l k g = false by simp [heldIn, h2]]
    go_enter Try.func75, Try.ntmps75
    go_wp2
    refine region_plus (by kernel_rfl) (by kernel_rfl) ?_
    (repeat (go_big_quiet_step (fail)))
    refine wpQuiet_nil ?_
    rintro _ ⟨x2, rfl⟩
    go_wp2
    go_ret
    exact ⟨rfl, by with_reducible repeat (first | exact Below.refl _ _ | apply ba | apply bp | apply bd | apply bn)⟩
  by_cases h3 : (nth dSl l k).gen = g
  · rw [show heldIn l k g = true by rw [held_spec, Int.toNat_natCast, hlen]; exact ⟨⟨h0, h1⟩, h2, h3⟩]
    go_enter Try.func75, Try.ntmps75
    go_wp2
    refine region_plus (by kernel_rfl) (by kernel_rfl) ?_
    (repeat (go_big_quiet_step (fail)))
    refine wpQuiet_nil ?_
    rintro _ ⟨x2, rfl⟩
    go_wp2
    go_ret
    exact ⟨rfl, by with_reducible repeat (first | exact Below.refl _ _ | apply ba | apply bp | apply bd | apply bn)⟩
  · rw [show heldIn l k g = false by simp [heldIn, h3]]
    have d3 : ((nth dSl l k).gen == g) = false := by rw [beq_eq_false_iff_ne]; exact h3
    go_enter Try.func75, Try.ntmps75
    go_wp2
    refine region_plus (by kernel_rfl) (by kernel_rfl) ?_
    (repeat (go_big_quiet_step (fail)))
    refine wpQuiet_nil ?_
    rintro _ ⟨x2, rfl⟩
    go_wp2
    go_ret
    exact ⟨rfl, by with_reducible repeat (first | exact Below.refl _ _ | apply ba | apply bp | apply bd | apply bn)⟩

end Go.Proofs.Ytmmflpjfgapaaaa
