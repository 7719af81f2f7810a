/- BoxTells is proved: boxes are checked, made, joined and told inside one another as the document says, and what is handed in stays: the call returns true for any points and boxes. No condition. -/
import Derived.Test.YtondjoilcpcneaaFlat
import Derived.Test.YtondjoilcpcneaaPts
import Derived.Test.YtondjoilcpcneaaBoxA
import Derived.Test.YtondjoilcpcneaaBoxJ
import Derived.Test.YtondjoilcpcneaaBoxR2
namespace Go.Proofs.Ytondjoilcpcneaa
open Go.RowKit Go.ChangeShapes Go.WideShapes Go.ChangeAt
set_option linter.unusedSimpArgs false
set_option linter.unusedVariables false
attribute [local go_sem] plus_size plus_drew dn_set dn_alloc dn_plus plus_dn cell_plus frozen_plus set_plus cell_alloc frozen_alloc set_alloc

theorem of_any (ao : Option Addr) (n cap : Nat) (q : Nat → V3) (w : World) (hn : n ≤ 10000) (h : n = 0 ∨ ∃ g off, ao = some ⟨g, off, none⟩ ∧ Lies w g off n q) :
    Calls Try.prog 13 #[.slice ao n cap] w fun e w' => e = .returned (.tuple #[.agg #[.int .i64 ((ofR q n).1).lo.x, .int .i64 ((ofR q n).1).lo.y, .int .i64 ((ofR q n).1).lo.z, .int .i64 ((ofR q n).1).hi.x, .int .i64 ((ofR q n).1).hi.y, .int .i64 ((ofR q n).1).hi.z], .int .i64 (ofR q n).2]) ∧ Below w.heap.size w w' := by
  by_cases h1 : n < 1 ∨ 4096 < n
  · exact of_many ao n cap q w hn h1
  · rcases h with h | ⟨g, off, rfl, hl⟩
    · omega
    · exact of_some g off n cap q w (by omega) (by omega) hl
theorem rof_any (ao : Option Addr) (n cap : Nat) (q : Nat → V3) (w : World) (hn : n ≤ 10000) (h : n = 0 ∨ ∃ g off, ao = some ⟨g, off, none⟩ ∧ Lies w g off n q) :
    Calls Try.prog 17 #[.slice ao n cap] w fun e w' => e = .returned (.tuple #[.agg #[.int .i64 ((ofR q n).1).lo.x, .int .i64 ((ofR q n).1).lo.y, .int .i64 ((ofR q n).1).lo.z, .int .i64 ((ofR q n).1).hi.x, .int .i64 ((ofR q n).1).hi.y, .int .i64 ((ofR q n).1).hi.z], .int .i64 (ofR q n).2]) ∧ Below w.heap.size w w' := by
  by_cases h1 : n < 1 ∨ 4096 < n
  · exact rof_many ao n cap q w hn h1
  · rcases h with h | ⟨g, off, rfl, hl⟩
    · omega
    · exact rof_some g off n cap q w (by omega) (by omega) hl
theorem lies_some {w w' : World} {g off n : Nat} {q : Nat → V3} (h : Lies w g off n q) (hw : ∃ x, w' = plus w x) : n = 0 ∨ ∃ g' off', some (⟨g, off, none⟩ : Addr) = some ⟨g', off', none⟩ ∧ Lies w' g' off' n q := .inr ⟨g, off, rfl, h.ex hw⟩

/-- append of no points at all -/
theorem wpList_append_zero {ops : Array Oper} {rest : List Oper} {o : Oper} {a : Act} {Q : Exit → Act → World → Prop} {w : World} (hgd : o.guard = none) (s x : Operand)
    (ho : o.op = .call { callee := .builtin .append, args := #[s, x], argTypes := #[35, 35] }) (ao : Option Addr) (c : Nat) (hs : a.eval s = .slice none 0 0) (hx : a.eval x = .slice ao 0 c)
    (h : wpList Try.prog ops Q rest (a.put o.dst (.slice none 0 0)) w) : wpList Try.prog ops Q (o :: rest) a w := by
  refine wpList_plain hgd fun K hK => ?_
  obtain ⟨i0, hi, hz0, hz1, hz2⟩ := info_parts info_vec
  have hr : (Builtin.append_ #[35, 35] o.type #[.slice none 0 0, .slice ao 0 c]).run Try.prog w = .ok (.slice none 0 0) w := by
    cases ao <;> simp [Builtin.append_, run_underlying Try.underlying35, sizeOf, typeInfo, hi, Builtin.lenOf, Builtin.firstCells, storeCells, loadCells, loadCellsFrom]
  unfold Oper.wp execOp
  simp only [ho, resolve, invoke, builtin, Sem.run_bind, Sem.run_pure, Result.andThen_ok, List.map_toArray, List.map_cons, List.map_nil, hs, hx, hr]
  exact hK _ _ h

theorem wpList_append_copy {ops : Array Oper} {rest : List Oper} {o : Oper} {a : Act} {Q : Exit → Act → World → Prop} {w : World} (hgd : o.guard = none) (s x : Operand)
    (ho : o.op = .call { callee := .builtin .append, args := #[s, x], argTypes := #[35, 35] }) (p : Nat → V3) (hs : a.eval s = .slice none 0 0)
    (g off m c : Nat) (hx : a.eval x = .slice (some ⟨g, off, none⟩) m c) (hl : Lies w g off m p) (hm : 0 < m) (hn : m ≤ 10000)
    (h : ∀ g' cap w', (∃ y, w' = plus w y) → Lies w' g' 0 m p → wpList Try.prog ops Q rest (a.put o.dst (.slice (some ⟨g', 0, none⟩) m cap)) w') : wpList Try.prog ops Q (o :: rest) a w := by
  refine wpList_append_pts (T := w) hgd s x ho (.slice none 0 0) 0 p hs (ex_refl w) (owns_nil _ _ _) g off m c hx ⟨hl.1, fun k hk => by simpa using hl.2 k hk⟩ hm (by omega) ?_
  intro g' cap y hown hg
  rw [Nat.zero_add] at hown ⊢
  exact h g' cap _ ⟨y, rfl⟩ (hown.lies hm)

set_option maxHeartbeats 8000000 in
set_option maxRecDepth 100000 in
theorem boxTells_some (G off n cap : Nat) (q : Nat → V3) (a b c d o f a2 b2 c2 d2 o2 f2 : Int) (w : World) (h0 : 0 < n) (hn : n ≤ 5000) (hl : Lies w G off n q) : Calls Try.prog 4 #[.slice (some ⟨G, off, none⟩) n cap, .agg #[.int .i64 a, .int .i64 b, .int .i64 c, .int .i64 d, .int .i64 o, .int .i64 f], .agg #[.int .i64 a2, .int .i64 b2, .int .i64 c2, .int .i64 d2, .int .i64 o2, .int .i64 f2]] w fun e w' => e = .returned (.bool true) ∧ Below w.heap.size w w' := by
  have in1 : (n : Int) ≤ 5000 := by omega
  go_enter Try.func4, Try.ntmps4
  go_wp2_with (first | (at_builtin; refine wpList_append_copy rfl _ _ rfl q rfl G off n _ rfl (hl.ex (by with_reducible repeat (first | exact ex_refl _ | exact ex_more | apply ex_alloc | apply ex_plus | apply ex_drew | apply ex_drewN))) h0 (by omega) ?_; intro g' cap' W1 hW1 hown; have c0_0 : W1.cell? ⟨w.heap.size, 0, none⟩ = some (.int .i64 a) := (by obtain ⟨x, rfl⟩ := hW1; simp [go_sem, ↓IntWalk.iteOmega]); have c0_1 : W1.cell? ⟨w.heap.size, 1, none⟩ = some (.int .i64 b) := (by obtain ⟨x, rfl⟩ := hW1; simp [go_sem, ↓IntWalk.iteOmega]); have c0_2 : W1.cell? ⟨w.heap.size, 2, none⟩ = some (.int .i64 c) := (by obtain ⟨x, rfl⟩ := hW1; simp [go_sem, ↓IntWalk.iteOmega]); have c0_3 : W1.cell? ⟨w.heap.size, 3, none⟩ = some (.int .i64 d) := (by obtain ⟨x, rfl⟩ := hW1; simp [go_sem, ↓IntWalk.iteOmega]); have c0_4 : W1.cell? ⟨w.heap.size, 4, none⟩ = some (.int .i64 o) := (by obtain ⟨x, rfl⟩ := hW1; simp [go_sem, ↓IntWalk.iteOmega]); have c0_5 : W1.cell? ⟨w.heap.size, 5, none⟩ = some (.int .i64 f) := (by obtain ⟨x, rfl⟩ := hW1; simp [go_sem, ↓IntWalk.iteOmega]); have c1_0 : W1.cell? ⟨w.heap.size + 1, 0, none⟩ = some (.int .i64 a2) := (by obtain ⟨x, rfl⟩ := hW1; simp [go_sem, ↓IntWalk.iteOmega]); have c1_1 : W1.cell? ⟨w.heap.size + 1, 1, none⟩ = some (.int .i64 b2) := (by obtain ⟨x, rfl⟩ := hW1; simp [go_sem, ↓IntWalk.iteOmega]); have c1_2 : W1.cell? ⟨w.heap.size + 1, 2, none⟩ = some (.int .i64 c2) := (by obtain ⟨x, rfl⟩ := hW1; simp [go_sem, ↓IntWalk.iteOmega]); have c1_3 : W1.cell? ⟨w.heap.size + 1, 3, none⟩ = some (.int .i64 d2) := (by obtain ⟨x, rfl⟩ := hW1; simp [go_sem, ↓IntWalk.iteOmega]); have c1_4 : W1.cell? ⟨w.heap.size + 1, 4, none⟩ = some (.int .i64 o2) := (by obtain ⟨x, rfl⟩ := hW1; simp [go_sem, ↓IntWalk.iteOmega]); have c1_5 : W1.cell? ⟨w.heap.size + 1, 5, none⟩ = some (.int .i64 f2) := (by obtain ⟨x, rfl⟩ := hW1; simp [go_sem, ↓IntWalk.iteOmega]); have hs : w.heap.size + 1 < W1.heap.size := (by obtain ⟨x, rfl⟩ := hW1; simp [go_sem]; omega); have hl1 : Lies W1 G off n q := hl.ex (by obtain ⟨x, rfl⟩ := hW1; exact (by with_reducible repeat (first | exact ex_refl _ | exact ex_more | apply ex_alloc | apply ex_plus | apply ex_drew | apply ex_drewN))); have hb1 : Below w.heap.size w W1 := (by obtain ⟨x, rfl⟩ := hW1; exact (by with_reducible repeat (first | exact Below.refl _ _ | apply ba | apply bp | apply bd | apply bn))); clear hW1) | (first | (go_at_call 13; refine (plus_post (of_any _ _ _ q _ (by omega) (lies_some hown (by with_reducible repeat (first | exact ex_refl _ | exact ex_more | apply ex_alloc | apply ex_plus | apply ex_drew | apply ex_drewN))))).mono ?_; rintro e w' ⟨rfl, n1, rfl⟩) | (go_at_call 17; refine (plus_post (rof_any _ _ _ q _ (by omega) (lies_some hl1 (by with_reducible repeat (first | exact ex_refl _ | exact ex_more | apply ex_alloc | apply ex_plus | apply ex_drew | apply ex_drewN))))).mono ?_; rintro e w' ⟨rfl, n2, rfl⟩) | (go_at_call 11; refine (plus_post (bjoin_calls _ _ _ _ _ _ _ _ _ _ _ _ _ )).mono ?_; rintro e w' ⟨rfl, n3, rfl⟩) | (go_at_call 18; refine (plus_post (rbjoin_calls _ _ _ _ _ _ _ _ _ _ _ _ _ )).mono ?_; rintro e w' ⟨rfl, n4, rfl⟩)))
  go_loopw [16] (fun iv wr => ∃ k : Nat, k ≤ n ∧ iv = .int .i64 k ∧ ∃ yy, wr = plus ((plus ((plus ((plus ((plus W1 n1).alloc (.cells #[.int .i64 ((ofR q n).1).lo.x, .int .i64 ((ofR q n).1).lo.y, .int .i64 ((ofR q n).1).lo.z, .int .i64 ((ofR q n).1).hi.x, .int .i64 ((ofR q n).1).hi.y, .int .i64 ((ofR q n).1).hi.z] 25)) n2).alloc (.cells #[.int .i64 ((ofR q n).1).lo.x, .int .i64 ((ofR q n).1).lo.y, .int .i64 ((ofR q n).1).lo.z, .int .i64 ((ofR q n).1).hi.x, .int .i64 ((ofR q n).1).hi.y, .int .i64 ((ofR q n).1).hi.z] 25)) n3).alloc (.cells #[.int .i64 ((joinR ⟨⟨a, b, c⟩, ⟨d, o, f⟩⟩ ⟨⟨a2, b2, c2⟩, ⟨d2, o2, f2⟩⟩).1).lo.x, .int .i64 ((joinR ⟨⟨a, b, c⟩, ⟨d, o, f⟩⟩ ⟨⟨a2, b2, c2⟩, ⟨d2, o2, f2⟩⟩).1).lo.y, .int .i64 ((joinR ⟨⟨a, b, c⟩, ⟨d, o, f⟩⟩ ⟨⟨a2, b2, c2⟩, ⟨d2, o2, f2⟩⟩).1).lo.z, .int .i64 ((joinR ⟨⟨a, b, c⟩, ⟨d, o, f⟩⟩ ⟨⟨a2, b2, c2⟩, ⟨d2, o2, f2⟩⟩).1).hi.x, .int .i64 ((joinR ⟨⟨a, b, c⟩, ⟨d, o, f⟩⟩ ⟨⟨a2, b2, c2⟩, ⟨d2, o2, f2⟩⟩).1).hi.y, .int .i64 ((joinR ⟨⟨a, b, c⟩, ⟨d, o, f⟩⟩ ⟨⟨a2, b2, c2⟩, ⟨d2, o2, f2⟩⟩).1).hi.z] 25)) n4).alloc (.cells #[.int .i64 ((joinR ⟨⟨a, b, c⟩, ⟨d, o, f⟩⟩ ⟨⟨a2, b2, c2⟩, ⟨d2, o2, f2⟩⟩).1).lo.x, .int .i64 ((joinR ⟨⟨a, b, c⟩, ⟨d, o, f⟩⟩ ⟨⟨a2, b2, c2⟩, ⟨d2, o2, f2⟩⟩).1).lo.y, .int .i64 ((joinR ⟨⟨a, b, c⟩, ⟨d, o, f⟩⟩ ⟨⟨a2, b2, c2⟩, ⟨d2, o2, f2⟩⟩).1).lo.z, .int .i64 ((joinR ⟨⟨a, b, c⟩, ⟨d, o, f⟩⟩ ⟨⟨a2, b2, c2⟩, ⟨d2, o2, f2⟩⟩).1).hi.x, .int .i64 ((joinR ⟨⟨a, b, c⟩, ⟨d, o, f⟩⟩ ⟨⟨a2, b2, c2⟩, ⟨d2, o2, f2⟩⟩).1).hi.y, .int .i64 ((joinR ⟨⟨a, b, c⟩, ⟨d, o, f⟩⟩ ⟨⟨a2, b2, c2⟩, ⟨d2, o2, f2⟩⟩).1).hi.z] 25)) yy) (fun iv _ => n - (intOf iv).toNat)
  case atStart => exact ⟨0, Nat.zero_le _, rfl, (by with_reducible repeat (first | exact ex_refl _ | exact ex_more | apply ex_alloc | apply ex_plus | apply ex_drew | apply ex_drewN))⟩
  case round =>
    obtain ⟨k, hk, rfl, yy, rfl⟩ := hrel
    by_cases hkl : k < n
    · obtain ⟨y1, y2, y3⟩ := hl1.2 k hkl
      obtain ⟨z1, z2, z3⟩ := hown.2 k hkl
      rw [Nat.zero_add] at z1 z2 z3
      have hg1 := hl1.1
      have hg2 := hown.1
      have ik : (k : Int) < (n : Int) := by omega
      go_wp2
      refine region_plus (by kernel_rfl) (by kernel_rfl) ?_
      (repeat (go_big_quiet_step (fail)))
      refine wpQuiet_nil ?_
      rintro _ ⟨x2, rfl⟩
      go_wp2
      go_roundw
      case rel => exact ⟨k + 1, by omega, by go_num, (by with_reducible repeat (first | exact ex_refl _ | exact ex_more | apply ex_alloc | apply ex_plus | apply ex_drew | apply ex_drewN))⟩
      case measure => simp [intOf]; omega
    · obtain rfl : k = n := by omega
      have e1 : (chkBx ⟨⟨a, b, c⟩, ⟨d, o, f⟩⟩ == 0) = mayBx ⟨⟨a, b, c⟩, ⟨d, o, f⟩⟩ := by cases h : mayBx ⟨⟨a, b, c⟩, ⟨d, o, f⟩⟩ <;> simp [chkBx, h]
      by_cases lo0 : a2 ≤ a
      rotate_left
      · have mn0 : min a a2 = a := by omega
        have nq : (a == a2) = false := by simp; omega
        have nq2 : ¬ a = a2 := by omega
        have hi : insideBx ⟨⟨a, b, c⟩, ⟨d, o, f⟩⟩ ⟨⟨a2, b2, c2⟩, ⟨d2, o2, f2⟩⟩ = false := by simp [insideBx, vle]; omega
        go_wp2
        refine region_plus (by kernel_rfl) (by kernel_rfl) ?_
        (repeat (go_big_quiet_step ((first | (go_at_call 15; exact plus_of (bcheck_calls _ _ _ _ _ _ _)) | (go_at_call 19; exact plus_of (rbmay_calls _ _ _ _ _ _ _)) | (go_at_call 20; exact plus_of (binside_calls _ _ _ _ _ _ _ _ _ _ _ _ _ )) | (go_at_call 21; exact plus_of (rlow_calls _ _ _ _ _ _ _)) | (go_at_call 22; exact plus_of (rhigh_calls _ _ _ _ _ _ _))))))
        refine wpQuiet_nil ?_
        rintro _ ⟨x2, rfl⟩
        go_wp2
        go_ret
        exact ⟨rfl, hb1.trans (Below.mono (by with_reducible repeat (first | exact Below.refl _ _ | apply ba | apply bp | apply bd | apply bn)) hb1.size)⟩
      have mn0 : min a a2 = a2 := by omega
      by_cases lo1 : b2 ≤ b
      rotate_left
      · have mn1 : min b b2 = b := by omega
        have nq : (b == b2) = false := by simp; omega
        have nq2 : ¬ b = b2 := by omega
        have hi : insideBx ⟨⟨a, b, c⟩, ⟨d, o, f⟩⟩ ⟨⟨a2, b2, c2⟩, ⟨d2, o2, f2⟩⟩ = false := by simp [insideBx, vle]; omega
        go_wp2
        refine region_plus (by kernel_rfl) (by kernel_rfl) ?_
        (repeat (go_big_quiet_step ((first | (go_at_call 15; exact plus_of (bcheck_calls _ _ _ _ _ _ _)) | (go_at_call 19; exact plus_of (rbmay_calls _ _ _ _ _ _ _)) | (go_at_call 20; exact plus_of (binside_calls _ _ _ _ _ _ _ _ _ _ _ _ _ )) | (go_at_call 21; exact plus_of (rlow_calls _ _ _ _ _ _ _)) | (go_at_call 22; exact plus_of (rhigh_calls _ _ _ _ _ _ _))))))
        refine wpQuiet_nil ?_
        rintro _ ⟨x2, rfl⟩
        go_wp2
        go_ret
        exact ⟨rfl, hb1.trans (Below.mono (by with_reducible repeat (first | exact Below.refl _ _ | apply ba | apply bp | apply bd | apply bn)) hb1.size)⟩
      have mn1 : min b b2 = b2 := by omega
      by_cases lo2 : c2 ≤ c
      rotate_left
      · have mn2 : min c c2 = c := by omega
        have nq : (c == c2) = false := by simp; omega
        have nq2 : ¬ c = c2 := by omega
        have hi : insideBx ⟨⟨a, b, c⟩, ⟨d, o, f⟩⟩ ⟨⟨a2, b2, c2⟩, ⟨d2, o2, f2⟩⟩ = false := by simp [insideBx, vle]; omega
        go_wp2
        refine region_plus (by kernel_rfl) (by kernel_rfl) ?_
        (repeat (go_big_quiet_step ((first | (go_at_call 15; exact plus_of (bcheck_calls _ _ _ _ _ _ _)) | (go_at_call 19; exact plus_of (rbmay_calls _ _ _ _ _ _ _)) | (go_at_call 20; exact plus_of (binside_calls _ _ _ _ _ _ _ _ _ _ _ _ _ )) | (go_at_call 21; exact plus_of (rlow_calls _ _ _ _ _ _ _)) | (go_at_call 22; exact plus_of (rhigh_calls _ _ _ _ _ _ _))))))
        refine wpQuiet_nil ?_
        rintro _ ⟨x2, rfl⟩
        go_wp2
        go_ret
        exact ⟨rfl, hb1.trans (Below.mono (by with_reducible repeat (first | exact Below.refl _ _ | apply ba | apply bp | apply bd | apply bn)) hb1.size)⟩
      have mn2 : min c c2 = c2 := by omega
      by_cases hi0 : d ≤ d2
      rotate_left
      · have mx0 : max d d2 = d := by omega
        have nq : (d == d2) = false := by simp; omega
        have nq2 : ¬ d = d2 := by omega
        have hi : insideBx ⟨⟨a, b, c⟩, ⟨d, o, f⟩⟩ ⟨⟨a2, b2, c2⟩, ⟨d2, o2, f2⟩⟩ = false := by simp [insideBx, vle]; omega
        go_wp2
        refine region_plus (by kernel_rfl) (by kernel_rfl) ?_
        (repeat (go_big_quiet_step ((first | (go_at_call 15; exact plus_of (bcheck_calls _ _ _ _ _ _ _)) | (go_at_call 19; exact plus_of (rbmay_calls _ _ _ _ _ _ _)) | (go_at_call 20; exact plus_of (binside_calls _ _ _ _ _ _ _ _ _ _ _ _ _ )) | (go_at_call 21; exact plus_of (rlow_calls _ _ _ _ _ _ _)) | (go_at_call 22; exact plus_of (rhigh_calls _ _ _ _ _ _ _))))))
        refine wpQuiet_nil ?_
        rintro _ ⟨x2, rfl⟩
        go_wp2
        go_ret
        exact ⟨rfl, hb1.trans (Below.mono (by with_reducible repeat (first | exact Below.refl _ _ | apply ba | apply bp | apply bd | apply bn)) hb1.size)⟩
      have mx0 : max d d2 = d2 := by omega
      by_cases hi1 : o ≤ o2
      rotate_left
      · have mx1 : max o o2 = o := by omega
        have nq : (o == o2) = false := by simp; omega
        have nq2 : ¬ o = o2 := by omega
        have hi : insideBx ⟨⟨a, b, c⟩, ⟨d, o, f⟩⟩ ⟨⟨a2, b2, c2⟩, ⟨d2, o2, f2⟩⟩ = false := by simp [insideBx, vle]; omega
        go_wp2
        refine region_plus (by kernel_rfl) (by kernel_rfl) ?_
        (repeat (go_big_quiet_step ((first | (go_at_call 15; exact plus_of (bcheck_calls _ _ _ _ _ _ _)) | (go_at_call 19; exact plus_of (rbmay_calls _ _ _ _ _ _ _)) | (go_at_call 20; exact plus_of (binside_calls _ _ _ _ _ _ _ _ _ _ _ _ _ )) | (go_at_call 21; exact plus_of (rlow_calls _ _ _ _ _ _ _)) | (go_at_call 22; exact plus_of (rhigh_calls _ _ _ _ _ _ _))))))
        refine wpQuiet_nil ?_
        rintro _ ⟨x2, rfl⟩
        go_wp2
        go_ret
        exact ⟨rfl, hb1.trans (Below.mono (by with_reducible repeat (first | exact Below.refl _ _ | apply ba | apply bp | apply bd | apply bn)) hb1.size)⟩
      have mx1 : max o o2 = o2 := by omega
      by_cases hi2 : f ≤ f2
      rotate_left
      · have mx2 : max f f2 = f := by omega
        have nq : (f == f2) = false := by simp; omega
        have nq2 : ¬ f = f2 := by omega
        have hi : insideBx ⟨⟨a, b, c⟩, ⟨d, o, f⟩⟩ ⟨⟨a2, b2, c2⟩, ⟨d2, o2, f2⟩⟩ = false := by simp [insideBx, vle]; omega
        go_wp2
        refine region_plus (by kernel_rfl) (by kernel_rfl) ?_
        (repeat (go_big_quiet_step ((first | (go_at_call 15; exact plus_of (bcheck_calls _ _ _ _ _ _ _)) | (go_at_call 19; exact plus_of (rbmay_calls _ _ _ _ _ _ _)) | (go_at_call 20; exact plus_of (binside_calls _ _ _ _ _ _ _ _ _ _ _ _ _ )) | (go_at_call 21; exact plus_of (rlow_calls _ _ _ _ _ _ _)) | (go_at_call 22; exact plus_of (rhigh_calls _ _ _ _ _ _ _))))))
        refine wpQuiet_nil ?_
        rintro _ ⟨x2, rfl⟩
        go_wp2
        go_ret
        exact ⟨rfl, hb1.trans (Below.mono (by with_reducible repeat (first | exact Below.refl _ _ | apply ba | apply bp | apply bd | apply bn)) hb1.size)⟩
      have mx2 : max f f2 = f2 := by omega
      have hi : insideBx ⟨⟨a, b, c⟩, ⟨d, o, f⟩⟩ ⟨⟨a2, b2, c2⟩, ⟨d2, o2, f2⟩⟩ = true := by simp [insideBx, vle]; omega
      go_wp2
      refine region_plus (by kernel_rfl) (by kernel_rfl) ?_
      (repeat (go_big_quiet_step ((first | (go_at_call 15; exact plus_of (bcheck_calls _ _ _ _ _ _ _)) | (go_at_call 19; exact plus_of (rbmay_calls _ _ _ _ _ _ _)) | (go_at_call 20; exact plus_of (binside_calls _ _ _ _ _ _ _ _ _ _ _ _ _ )) | (go_at_call 21; exact plus_of (rlow_calls _ _ _ _ _ _ _)) | (go_at_call 22; exact plus_of (rhigh_calls _ _ _ _ _ _ _))))))
      refine wpQuiet_nil ?_
      rintro _ ⟨x2, rfl⟩
      go_wp2
      go_ret
      exact ⟨rfl, hb1.trans (Below.mono (by with_reducible repeat (first | exact Below.refl _ _ | apply ba | apply bp | apply bd | apply bn)) hb1.size)⟩

set_option maxHeartbeats 8000000 in
set_option maxRecDepth 100000 in
theorem boxTells_zero (ao : Option Addr) (cap : Nat) (q : Nat → V3) (a b c d o f a2 b2 c2 d2 o2 f2 : Int) (w : World) : Calls Try.prog 4 #[.slice ao 0 cap, .agg #[.int .i64 a, .int .i64 b, .int .i64 c, .int .i64 d, .int .i64 o, .int .i64 f], .agg #[.int .i64 a2, .int .i64 b2, .int .i64 c2, .int .i64 d2, .int .i64 o2, .int .i64 f2]] w fun e w' => e = .returned (.bool true) ∧ Below w.heap.size w w' := by
  go_enter Try.func4, Try.ntmps4
  go_wp2_with (first | (at_builtin; refine wpList_append_zero rfl _ _ rfl ao _ rfl rfl ?_) | (first | (go_at_call 13; refine (plus_post (of_any _ _ _ q _ (by omega) (.inl rfl))).mono ?_; rintro e w' ⟨rfl, n1, rfl⟩) | (go_at_call 17; refine (plus_post (rof_any _ _ _ q _ (by omega) (.inl rfl))).mono ?_; rintro e w' ⟨rfl, n2, rfl⟩) | (go_at_call 11; refine (plus_post (bjoin_calls _ _ _ _ _ _ _ _ _ _ _ _ _ )).mono ?_; rintro e w' ⟨rfl, n3, rfl⟩) | (go_at_call 18; refine (plus_post (rbjoin_calls _ _ _ _ _ _ _ _ _ _ _ _ _ )).mono ?_; rintro e w' ⟨rfl, n4, rfl⟩)))
  refine wp_loop_rounds 1 ?_
  rw [rounds_succ]
  have e1 : (chkBx ⟨⟨a, b, c⟩, ⟨d, o, f⟩⟩ == 0) = mayBx ⟨⟨a, b, c⟩, ⟨d, o, f⟩⟩ := by cases h : mayBx ⟨⟨a, b, c⟩, ⟨d, o, f⟩⟩ <;> simp [chkBx, h]
  by_cases lo0 : a2 ≤ a
  rotate_left
  · have mn0 : min a a2 = a := by omega
    have nq : (a == a2) = false := by simp; omega
    have nq2 : ¬ a = a2 := by omega
    have hi : insideBx ⟨⟨a, b, c⟩, ⟨d, o, f⟩⟩ ⟨⟨a2, b2, c2⟩, ⟨d2, o2, f2⟩⟩ = false := by simp [insideBx, vle]; omega
    go_wp2
    refine region_plus (by kernel_rfl) (by kernel_rfl) ?_
    (repeat (go_big_quiet_step ((first | (go_at_call 15; exact plus_of (bcheck_calls _ _ _ _ _ _ _)) | (go_at_call 19; exact plus_of (rbmay_calls _ _ _ _ _ _ _)) | (go_at_call 20; exact plus_of (binside_calls _ _ _ _ _ _ _ _ _ _ _ _ _ )) | (go_at_call 21; exact plus_of (rlow_calls _ _ _ _ _ _ _)) | (go_at_call 22; exact plus_of (rhigh_calls _ _ _ _ _ _ _))))))
    refine wpQuiet_nil ?_
    rintro _ ⟨x2, rfl⟩
    go_wp2
    go_ret
    exact ⟨rfl, by with_reducible repeat (first | exact Below.refl _ _ | apply ba | apply bp | apply bd | apply bn)⟩
  have mn0 : min a a2 = a2 := by omega
  by_cases lo1 : b2 ≤ b
  rotate_left
  · have mn1 : min b b2 = b := by omega
    have nq : (b == b2) = false := by simp; omega
    have nq2 : ¬ b = b2 := by omega
    have hi : insideBx ⟨⟨a, b, c⟩, ⟨d, o, f⟩⟩ ⟨⟨a2, b2, c2⟩, ⟨d2, o2, f2⟩⟩ = false := by simp [insideBx, vle]; omega
    go_wp2
    refine region_plus (by kernel_rfl) (by kernel_rfl) ?_
    (repeat (go_big_quiet_step ((first | (go_at_call 15; exact plus_of (bcheck_calls _ _ _ _ _ _ _)) | (go_at_call 19; exact plus_of (rbmay_calls _ _ _ _ _ _ _)) | (go_at_call 20; exact plus_of (binside_calls _ _ _ _ _ _ _ _ _ _ _ _ _ )) | (go_at_call 21; exact plus_of (rlow_calls _ _ _ _ _ _ _)) | (go_at_call 22; exact plus_of (rhigh_calls _ _ _ _ _ _ _))))))
    refine wpQuiet_nil ?_
    rintro _ ⟨x2, rfl⟩
    go_wp2
    go_ret
    exact ⟨rfl, by with_reducible repeat (first | exact Below.refl _ _ | apply ba | apply bp | apply bd | apply bn)⟩
  have mn1 : min b b2 = b2 := by omega
  by_cases lo2 : c2 ≤ c
  rotate_left
  · have mn2 : min c c2 = c := by omega
    have nq : (c == c2) = false := by simp; omega
    have nq2 : ¬ c = c2 := by omega
    have hi : insideBx ⟨⟨a, b, c⟩, ⟨d, o, f⟩⟩ ⟨⟨a2, b2, c2⟩, ⟨d2, o2, f2⟩⟩ = false := by simp [insideBx, vle]; omega
    go_wp2
    refine region_plus (by kernel_rfl) (by kernel_rfl) ?_
    (repeat (go_big_quiet_step ((first | (go_at_call 15; exact plus_of (bcheck_calls _ _ _ _ _ _ _)) | (go_at_call 19; exact plus_of (rbmay_calls _ _ _ _ _ _ _)) | (go_at_call 20; exact plus_of (binside_calls _ _ _ _ _ _ _ _ _ _ _ _ _ )) | (go_at_call 21; exact plus_of (rlow_calls _ _ _ _ _ _ _)) | (go_at_call 22; exact plus_of (rhigh_calls _ _ _ _ _ _ _))))))
    refine wpQuiet_nil ?_
    rintro _ ⟨x2, rfl⟩
    go_wp2
    go_ret
    exact ⟨rfl, by with_reducible repeat (first | exact Below.refl _ _ | apply ba | apply bp | apply bd | apply bn)⟩
  have mn2 : min c c2 = c2 := by omega
  by_cases hi0 : d ≤ d2
  rotate_left
  · have mx0 : max d d2 = d := by omega
    have nq : (d == d2) = false := by simp; omega
    have nq2 : ¬ d = d2 := by omega
    have hi : insideBx ⟨⟨a, b, c⟩, ⟨d, o, f⟩⟩ ⟨⟨a2, b2, c2⟩, ⟨d2, o2, f2⟩⟩ = false := by simp [insideBx, vle]; omega
    go_wp2
    refine region_plus (by kernel_rfl) (by kernel_rfl) ?_
    (repeat (go_big_quiet_step ((first | (go_at_call 15; exact plus_of (bcheck_calls _ _ _ _ _ _ _)) | (go_at_call 19; exact plus_of (rbmay_calls _ _ _ _ _ _ _)) | (go_at_call 20; exact plus_of (binside_calls _ _ _ _ _ _ _ _ _ _ _ _ _ )) | (go_at_call 21; exact plus_of (rlow_calls _ _ _ _ _ _ _)) | (go_at_call 22; exact plus_of (rhigh_calls _ _ _ _ _ _ _))))))
    refine wpQuiet_nil ?_
    rintro _ ⟨x2, rfl⟩
    go_wp2
    go_ret
    exact ⟨rfl, by with_reducible repeat (first | exact Below.refl _ _ | apply ba | apply bp | apply bd | apply bn)⟩
  have mx0 : max d d2 = d2 := by omega
  by_cases hi1 : o ≤ o2
  rotate_left
  · have mx1 : max o o2 = o := by omega
    have nq : (o == o2) = false := by simp; omega
    have nq2 : ¬ o = o2 := by omega
    have hi : insideBx ⟨⟨a, b, c⟩, ⟨d, o, f⟩⟩ ⟨⟨a2, b2, c2⟩, ⟨d2, o2, f2⟩⟩ = false := by simp [insideBx, vle]; omega
    go_wp2
    refine region_plus (by kernel_rfl) (by kernel_rfl) ?_
    (repeat (go_big_quiet_step ((first | (go_at_call 15; exact plus_of (bcheck_calls _ _ _ _ _ _ _)) | (go_at_call 19; exact plus_of (rbmay_calls _ _ _ _ _ _ _)) | (go_at_call 20; exact plus_of (binside_calls _ _ _ _ _ _ _ _ _ _ _ _ _ )) | (go_at_call 21; exact plus_of (rlow_calls _ _ _ _ _ _ _)) | (go_at_call 22; exact plus_of (rhigh_calls _ _ _ _ _ _ _))))))
    refine wpQuiet_nil ?_
    rintro _ ⟨x2, rfl⟩
    go_wp2
    go_ret
    exact ⟨rfl, by with_reducible repeat (first | exact Below.refl _ _ | apply ba | apply bp | apply bd | apply bn)⟩
  have mx1 : max o o2 = o2 := by omega
  by_cases hi2 : f ≤ f2
  rotate_left
  · have mx2 : max f f2 = f := by omega
    have nq : (f == f2) = false := by simp; omega
    have nq2 : ¬ f = f2 := by omega
    have hi : insideBx ⟨⟨a, b, c⟩, ⟨d, o, f⟩⟩ ⟨⟨a2, b2, c2⟩, ⟨d2, o2, f2⟩⟩ = false := by simp [insideBx, vle]; omega
    go_wp2
    refine region_plus (by kernel_rfl) (by kernel_rfl) ?_
    (repeat (go_big_quiet_step ((first | (go_at_call 15; exact plus_of (bcheck_calls _ _ _ _ _ _ _)) | (go_at_call 19; exact plus_of (rbmay_calls _ _ _ _ _ _ _)) | (go_at_call 20; exact plus_of (binside_calls _ _ _ _ _ _ _ _ _ _ _ _ _ )) | (go_at_call 21; exact plus_of (rlow_calls _ _ _ _ _ _ _)) | (go_at_call 22; exact plus_of (rhigh_calls _ _ _ _ _ _ _))))))
    refine wpQuiet_nil ?_
    rintro _ ⟨x2, rfl⟩
    go_wp2
    go_ret
    exact ⟨rfl, by with_reducible repeat (first | exact Below.refl _ _ | apply ba | apply bp | apply bd | apply bn)⟩
  have mx2 : max f f2 = f2 := by omega
  have hi : insideBx ⟨⟨a, b, c⟩, ⟨d, o, f⟩⟩ ⟨⟨a2, b2, c2⟩, ⟨d2, o2, f2⟩⟩ = true := by simp [insideBx, vle]; omega
  go_wp2
  refine region_plus (by kernel_rfl) (by kernel_rfl) ?_
  (repeat (go_big_quiet_step ((first | (go_at_call 15; exact plus_of (bcheck_calls _ _ _ _ _ _ _)) | (go_at_call 19; exact plus_of (rbmay_calls _ _ _ _ _ _ _)) | (go_at_call 20; exact plus_of (binside_calls _ _ _ _ _ _ _ _ _ _ _ _ _ )) | (go_at_call 21; exact plus_of (rlow_calls _ _ _ _ _ _ _)) | (go_at_call 22; exact plus_of (rhigh_calls _ _ _ _ _ _ _))))))
  refine wpQuiet_nil ?_
  rintro _ ⟨x2, rfl⟩
  go_wp2
  go_ret
  exact ⟨rfl, by with_reducible repeat (first | exact Below.refl _ _ | apply ba | apply bp | apply bd | apply bn)⟩

theorem boxTells_walk (ao : Option Addr) (n cap : Nat) (q : Nat → V3) (a b c d o f a2 b2 c2 d2 o2 f2 : Int) (w : World) (hn : n ≤ 9223372036854775807) (hq : n = 0 ∨ ∃ g off, ao = some ⟨g, off, none⟩ ∧ Lies w g off n q) : Calls Try.prog 4 #[.slice ao n cap, .agg #[.int .i64 a, .int .i64 b, .int .i64 c, .int .i64 d, .int .i64 o, .int .i64 f], .agg #[.int .i64 a2, .int .i64 b2, .int .i64 c2, .int .i64 d2, .int .i64 o2, .int .i64 f2]] w fun e w' => e = .returned (.bool true) ∧ Below w.heap.size w w' := by
  by_cases h : n ≤ 5000
  · by_cases h0 : n = 0
    · subst h0
      exact boxTells_zero ao cap q a b c d o f a2 b2 c2 d2 o2 f2 w
    · obtain ⟨g, off, rfl, hl⟩ := hq.resolve_left h0
      exact boxTells_some g off n cap q a b c d o f a2 b2 c2 d2 o2 f2 w (by omega) h hl
  · have in1 : (5000 : Int) < (n : Int) := by omega
    go_enter Try.func4, Try.ntmps4
    go_wp2
    go_ret
    exact ⟨rfl, by with_reducible repeat (first | exact Below.refl _ _ | apply ba | apply bp | apply bd | apply bn)⟩

set_option maxRecDepth 100000 in
theorem boxTells_lifted (os : Os) (started : os.Started) (H : Type) (enc : TypeId × Value → H) :
    ReturnsInHanded {} Try.checked os 4 .any (Rows.boxTellsSpec.pre6 enc Try.prog Try.f4 Rows.boxTellsRow.domain false) (Rows.boxTellsSpec.post enc Try.prog Try.f4 false true false false) := by
  refine returnsInHanded_of_change (C := Try.checked) own started (by kernel_rfl) Try.func4
    (ChangeSpec.witness6 (enc := enc) (C := Try.checked) false ⟨#[], #[.slice none 0 0, .agg #[.int .i64 0, .int .i64 0, .int .i64 0, .int .i64 0, .int .i64 0, .int .i64 0], .agg #[.int .i64 0, .int .i64 0, .int .i64 0, .int .i64 0, .int .i64 0, .int .i64 0]], []⟩ 8 (by kernel_rfl) (by kernel_rfl) (by kernel_rfl) (by kernel_rfl)) ?_
  intro W base args ds gs before hval0 hW hcnd _
  have hval : ∀ (j : Nat) t v, Try.f4.params[j]? = some t → args[j]? = some v → Value.okWide Try.prog W .any base t v := hval0
  have hW' := hW
  obtain ⟨p, q, hA0, hV, rfl, hfz, hnd⟩ := hW
  have hA : DataW.TrodAll enc Try.prog W 0 (fun _ => true) true Try.f4.params.toList args.toList ds p := hA0
  rw [Try.params4] at hA hval
  obtain ⟨v0, vs0, d0, ds0, p0, q0, hargs, rfl, rfl, h0, r0⟩ := trodAll_cons hA
  obtain ⟨v1, vs1, d1, ds1, p1, q1, rfl, rfl, rfl, h1, r1⟩ := trodAll_cons r0
  obtain ⟨v2, vs2, d2, ds2, p2, q2, rfl, rfl, rfl, h2, r2⟩ := trodAll_cons r1
  obtain ⟨rfl, rfl, rfl⟩ := trodAll_nil r2
  obtain rfl : args = #[v0, v1, v2] := by cases args; simp_all
  obtain ⟨ao0, n0, cap0, rfl, hn0, ho0⟩ := open_flats (k := 4) (c := 3) Try.underlying35 (by kernel_rfl) (by kernel_rfl) (by decide) (hval 0 35 v0 rfl rfl) h0
  obtain ⟨q0, hq0⟩ := pts_arg ho0
  obtain ⟨a1_0, a1_1, a1_2, a1_3, a1_4, a1_5, rfl, ca1_0, ca1_1, ca1_2, ca1_3, ca1_4, ca1_5⟩ := open_flat6 (k := 4) (t := 25) (by kernel_rfl) (by kernel_rfl) (by kernel_rfl) (hval 1 25 v1 rfl rfl) h1
  obtain ⟨a2_0, a2_1, a2_2, a2_3, a2_4, a2_5, rfl, ca2_0, ca2_1, ca2_2, ca2_3, ca2_4, ca2_5⟩ := open_flat6 (k := 4) (t := 25) (by kernel_rfl) (by kernel_rfl) (by kernel_rfl) (hval 2 25 v2 rfl rfl) h2
  refine (boxTells_walk ao0 n0 cap0 q0 a1_0 a1_1 a1_2 a1_3 a1_4 a1_5 a2_0 a2_1 a2_2 a2_3 a2_4 a2_5  W hn0 hq0).mono fun e W' ⟨he, hb⟩ => ?_
  exact ⟨_, he, law_post laidOut Try.underlying4 rfl (by kernel_rfl) (by kernel_rfl) (fun ds h => match ds, h with | [_, _, _], _ => rfl) hW' hb⟩

theorem boxTells_holds : Rows.BoxTellsSaid :=
  OpenClaim.holds_of_wide 4 Try.f4 rfl rfl rfl rfl rfl rfl rfl ⟨rfl, rfl, rfl, rfl, rfl⟩ rfl rfl rfl rfl rfl (by kernel_rfl) Try.func4 (by kernel_rfl)
    (of_decide_eq_true (by kernel_rfl)) (by unfold Func.isWrapper; first | (rw [if_pos (by decide +kernel)]; kernel_rfl) | (rw [if_neg (by decide +kernel)]; exact ⟨rfl, rfl⟩))
    (fun os started H enc _ => boxTells_lifted os started H enc)
#print axioms boxTells_holds
end Go.Proofs.Ytondjoilcpcneaa
