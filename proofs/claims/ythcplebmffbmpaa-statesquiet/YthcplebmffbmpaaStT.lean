/- What dioramalaw07.thing gives. -/
import Derived.Test.YthcplebmffbmpaaProg
import Derived.Test.YthcplebmffbmpaaStMath
import Derived.Test.YthcplebmffbmpaaTail
import Derived.Test.YthcplebmffbmpaaFresh
namespace Go.Proofs.Ythcplebmffbmpaa
open Go.RowKit Go.ChangeShapes Go.WideShapes Go.ChangeAt
set_option linter.unusedSimpArgs false
set_option linter.unusedVariables false
attribute [local go_sem] plus_size plus_drew dn_set dn_alloc dn_plus plus_dn cell_plus frozen_plus set_plus cell_alloc frozen_alloc set_alloc

theorem thing0_calls (ur ug ub ua ut uc ui : Int) (ul : Bool) (un : Int) (hB : LkB ⟨ur, ug, ub, ua, ut, uc, ui, ul, un⟩) (w : World) :
    Calls Try.prog 22 #[.agg #[.int .u8 ur, .int .u8 ug, .int .u8 ub, .int .u8 ua, .int .i64 ut, .int .u8 uc, .int .i64 ui, .bool ul, .int .i64 un], .int .i64 0] w fun e w' => e = .returned (.agg #[.int .i64 ur, .int .i64 ug, .int .i64 ub, .int .i64 ua, .int .i64 0, .int .i64 0]) ∧ Below w.heap.size w w' := by
  obtain ⟨⟨r1, r2⟩, ⟨g1, g2⟩, ⟨b1, b2⟩, ⟨a1, a2⟩, ⟨c1, c2⟩⟩ := hB
  simp only at r1 r2 g1 g2 b1 b2 a1 a2 c1 c2
  go_enter Try.func22, Try.ntmps22
  go_wp2
  exact bodyPost_ret (v := .agg #[.int .i64 ur, .int .i64 ug, .int .i64 ub, .int .i64 ua, .int .i64 0, .int .i64 0]) (by simp [results, Try.results22, go_sem, ↓IntWalk.iteOmega]) rfl ⟨rfl, by with_reducible repeat (first | exact Below.refl _ _ | apply ba | apply bp | apply bd | apply bn)⟩

theorem thing1_calls (ur ug ub ua ut uc ui : Int) (ul : Bool) (un : Int) (hB : LkB ⟨ur, ug, ub, ua, ut, uc, ui, ul, un⟩) (w : World) :
    Calls Try.prog 22 #[.agg #[.int .u8 ur, .int .u8 ug, .int .u8 ub, .int .u8 ua, .int .i64 ut, .int .u8 uc, .int .i64 ui, .bool ul, .int .i64 un], .int .i64 1] w fun e w' => e = .returned (.agg #[.int .i64 ut, .int .i64 0, .int .i64 0, .int .i64 0, .int .i64 0, .int .i64 0]) ∧ Below w.heap.size w w' := by
  obtain ⟨⟨r1, r2⟩, ⟨g1, g2⟩, ⟨b1, b2⟩, ⟨a1, a2⟩, ⟨c1, c2⟩⟩ := hB
  simp only at r1 r2 g1 g2 b1 b2 a1 a2 c1 c2
  go_enter Try.func22, Try.ntmps22
  go_wp2
  exact bodyPost_ret (v := .agg #[.int .i64 ut, .int .i64 0, .int .i64 0, .int .i64 0, .int .i64 0, .int .i64 0]) (by simp [results, Try.results22, go_sem, ↓IntWalk.iteOmega]) rfl ⟨rfl, by with_reducible repeat (first | exact Below.refl _ _ | apply ba | apply bp | apply bd | apply bn)⟩

theorem thing2_calls (ur ug ub ua ut uc ui : Int) (ul : Bool) (un : Int) (hB : LkB ⟨ur, ug, ub, ua, ut, uc, ui, ul, un⟩) (w : World) :
    Calls Try.prog 22 #[.agg #[.int .u8 ur, .int .u8 ug, .int .u8 ub, .int .u8 ua, .int .i64 ut, .int .u8 uc, .int .i64 ui, .bool ul, .int .i64 un], .int .i64 2] w fun e w' => e = .returned (.agg #[.int .i64 uc, .int .i64 0, .int .i64 0, .int .i64 0, .int .i64 0, .int .i64 0]) ∧ Below w.heap.size w w' := by
  obtain ⟨⟨r1, r2⟩, ⟨g1, g2⟩, ⟨b1, b2⟩, ⟨a1, a2⟩, ⟨c1, c2⟩⟩ := hB
  simp only at r1 r2 g1 g2 b1 b2 a1 a2 c1 c2
  go_enter Try.func22, Try.ntmps22
  go_wp2
  exact bodyPost_ret (v := .agg #[.int .i64 uc, .int .i64 0, .int .i64 0, .int .i64 0, .int .i64 0, .int .i64 0]) (by simp [results, Try.results22, go_sem, ↓IntWalk.iteOmega]) rfl ⟨rfl, by with_reducible repeat (first | exact Below.refl _ _ | apply ba | apply bp | apply bd | apply bn)⟩

theorem thing3_calls (ur ug ub ua ut uc ui : Int) (ul : Bool) (un : Int) (hB : LkB ⟨ur, ug, ub, ua, ut, uc, ui, ul, un⟩) (w : World) :
    Calls Try.prog 22 #[.agg #[.int .u8 ur, .int .u8 ug, .int .u8 ub, .int .u8 ua, .int .i64 ut, .int .u8 uc, .int .i64 ui, .bool ul, .int .i64 un], .int .i64 3] w fun e w' => e = .returned (.agg #[.int .i64 ui, .int .i64 0, .int .i64 0, .int .i64 0, .int .i64 0, .int .i64 0]) ∧ Below w.heap.size w w' := by
  obtain ⟨⟨r1, r2⟩, ⟨g1, g2⟩, ⟨b1, b2⟩, ⟨a1, a2⟩, ⟨c1, c2⟩⟩ := hB
  simp only at r1 r2 g1 g2 b1 b2 a1 a2 c1 c2
  go_enter Try.func22, Try.ntmps22
  go_wp2
  exact bodyPost_ret (v := .agg #[.int .i64 ui, .int .i64 0, .int .i64 0, .int .i64 0, .int .i64 0, .int .i64 0]) (by simp [results, Try.results22, go_sem, ↓IntWalk.iteOmega]) rfl ⟨rfl, by with_reducible repeat (first | exact Below.refl _ _ | apply ba | apply bp | apply bd | apply bn)⟩

theorem thing4_calls (ur ug ub ua ut uc ui : Int) (ul : Bool) (un : Int) (hB : LkB ⟨ur, ug, ub, ua, ut, uc, ui, ul, un⟩) (w : World) :
    Calls Try.prog 22 #[.agg #[.int .u8 ur, .int .u8 ug, .int .u8 ub, .int .u8 ua, .int .i64 ut, .int .u8 uc, .int .i64 ui, .bool ul, .int .i64 un], .int .i64 4] w fun e w' => e = .returned (.agg #[.int .i64 (if ul then 1 else 0), .int .i64 un, .int .i64 0, .int .i64 0, .int .i64 0, .int .i64 0]) ∧ Below w.heap.size w w' := by
  obtain ⟨⟨r1, r2⟩, ⟨g1, g2⟩, ⟨b1, b2⟩, ⟨a1, a2⟩, ⟨c1, c2⟩⟩ := hB
  simp only at r1 r2 g1 g2 b1 b2 a1 a2 c1 c2
  cases ul
  · go_enter Try.func22, Try.ntmps22
    go_wp2
    exact bodyPost_ret (v := .agg #[.int .i64 0, .int .i64 un, .int .i64 0, .int .i64 0, .int .i64 0, .int .i64 0]) (by simp [results, Try.results22, go_sem, ↓IntWalk.iteOmega]) rfl ⟨rfl, by with_reducible repeat (first | exact Below.refl _ _ | apply ba | apply bp | apply bd | apply bn)⟩
  · go_enter Try.func22, Try.ntmps22
    go_wp2
    exact bodyPost_ret (v := .agg #[.int .i64 1, .int .i64 un, .int .i64 0, .int .i64 0, .int .i64 0, .int .i64 0]) (by simp [results, Try.results22, go_sem, ↓IntWalk.iteOmega]) rfl ⟨rfl, by with_reducible repeat (first | exact Below.refl _ _ | apply ba | apply bp | apply bd | apply bn)⟩

end Go.Proofs.Ythcplebmffbmpaa
