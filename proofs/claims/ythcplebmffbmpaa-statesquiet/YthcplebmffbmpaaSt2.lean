/- What states.things and withColor .. give. -/
import Derived.Test.YthcplebmffbmpaaSt1
import Derived.Laws.EntriesVeiled
namespace Go.Proofs.Ythcplebmffbmpaa
open Go.RowKit Go.ChangeShapes Go.WideShapes Go.ChangeAt
set_option linter.unusedSimpArgs false
set_option linter.unusedVariables false
attribute [local go_sem] plus_size plus_drew dn_set dn_alloc dn_plus plus_dn cell_plus frozen_plus set_plus cell_alloc frozen_alloc set_alloc

theorem things_calls (w : World) :
    Calls Try.prog 27 #[] w fun e w' => e = .returned (.agg #[.func (.func 31) #[] #[], .func (.func 32) #[] #[], .func (.func 33) #[] #[], .func (.func 34) #[] #[], .func (.func 35) #[] #[]]) ∧ Below w.heap.size w w' := by
  go_enter Try.func27, Try.ntmps27
  go_wp2
  exact bodyPost_ret (v := .agg #[.func (.func 31) #[] #[], .func (.func 32) #[] #[], .func (.func 33) #[] #[], .func (.func 34) #[] #[], .func (.func 35) #[] #[]]) (by simp [results, Try.results27, go_sem, ↓IntWalk.iteOmega]) rfl ⟨rfl, by with_reducible repeat (first | exact Below.refl _ _ | apply ba | apply bp | apply bd | apply bn)⟩

theorem withColor_calls (ur ug ub ua ut uc ui : Int) (ul : Bool) (un : Int) (vr vg vb va vt vc vi : Int) (vl : Bool) (vn : Int) (w : World) :
    Calls Try.prog 31 #[.agg #[.int .u8 ur, .int .u8 ug, .int .u8 ub, .int .u8 ua, .int .i64 ut, .int .u8 uc, .int .i64 ui, .bool ul, .int .i64 un], .agg #[.int .u8 vr, .int .u8 vg, .int .u8 vb, .int .u8 va, .int .i64 vt, .int .u8 vc, .int .i64 vi, .bool vl, .int .i64 vn]] w fun e w' => e = .returned (.agg #[.int .u8 vr, .int .u8 vg, .int .u8 vb, .int .u8 va, .int .i64 ut, .int .u8 uc, .int .i64 ui, .bool ul, .int .i64 un]) ∧ Below w.heap.size w w' := by
  go_enter Try.func31, Try.ntmps31
  go_wp2
  exact bodyPost_ret (v := .agg #[.int .u8 vr, .int .u8 vg, .int .u8 vb, .int .u8 va, .int .i64 ut, .int .u8 uc, .int .i64 ui, .bool ul, .int .i64 un]) (by simp [results, Try.results31, go_sem, ↓IntWalk.iteOmega]) rfl ⟨rfl, by with_reducible repeat (first | exact Below.refl _ _ | apply ba | apply bp | apply bd | apply bn)⟩

theorem withTexture_calls (ur ug ub ua ut uc ui : Int) (ul : Bool) (un : Int) (vr vg vb va vt vc vi : Int) (vl : Bool) (vn : Int) (w : World) :
    Calls Try.prog 32 #[.agg #[.int .u8 ur, .int .u8 ug, .int .u8 ub, .int .u8 ua, .int .i64 ut, .int .u8 uc, .int .i64 ui, .bool ul, .int .i64 un], .agg #[.int .u8 vr, .int .u8 vg, .int .u8 vb, .int .u8 va, .int .i64 vt, .int .u8 vc, .int .i64 vi, .bool vl, .int .i64 vn]] w fun e w' => e = .returned (.agg #[.int .u8 ur, .int .u8 ug, .int .u8 ub, .int .u8 ua, .int .i64 vt, .int .u8 uc, .int .i64 ui, .bool ul, .int .i64 un]) ∧ Below w.heap.size w w' := by
  go_enter Try.func32, Try.ntmps32
  go_wp2
  exact bodyPost_ret (v := .agg #[.int .u8 ur, .int .u8 ug, .int .u8 ub, .int .u8 ua, .int .i64 vt, .int .u8 uc, .int .i64 ui, .bool ul, .int .i64 un]) (by simp [results, Try.results32, go_sem, ↓IntWalk.iteOmega]) rfl ⟨rfl, by with_reducible repeat (first | exact Below.refl _ _ | apply ba | apply bp | apply bd | apply bn)⟩

theorem withCull_calls (ur ug ub ua ut uc ui : Int) (ul : Bool) (un : Int) (vr vg vb va vt vc vi : Int) (vl : Bool) (vn : Int) (w : World) :
    Calls Try.prog 33 #[.agg #[.int .u8 ur, .int .u8 ug, .int .u8 ub, .int .u8 ua, .int .i64 ut, .int .u8 uc, .int .i64 ui, .bool ul, .int .i64 un], .agg #[.int .u8 vr, .int .u8 vg, .int .u8 vb, .int .u8 va, .int .i64 vt, .int .u8 vc, .int .i64 vi, .bool vl, .int .i64 vn]] w fun e w' => e = .returned (.agg #[.int .u8 ur, .int .u8 ug, .int .u8 ub, .int .u8 ua, .int .i64 ut, .int .u8 vc, .int .i64 ui, .bool ul, .int .i64 un]) ∧ Below w.heap.size w w' := by
  go_enter Try.func33, Try.ntmps33
  go_wp2
  exact bodyPost_ret (v := .agg #[.int .u8 ur, .int .u8 ug, .int .u8 ub, .int .u8 ua, .int .i64 ut, .int .u8 vc, .int .i64 ui, .bool ul, .int .i64 un]) (by simp [results, Try.results33, go_sem, ↓IntWalk.iteOmega]) rfl ⟨rfl, by with_reducible repeat (first | exact Below.refl _ _ | apply ba | apply bp | apply bd | apply bn)⟩

theorem withBias_calls (ur ug ub ua ut uc ui : Int) (ul : Bool) (un : Int) (vr vg vb va vt vc vi : Int) (vl : Bool) (vn : Int) (w : World) :
    Calls Try.prog 34 #[.agg #[.int .u8 ur, .int .u8 ug, .int .u8 ub, .int .u8 ua, .int .i64 ut, .int .u8 uc, .int .i64 ui, .bool ul, .int .i64 un], .agg #[.int .u8 vr, .int .u8 vg, .int .u8 vb, .int .u8 va, .int .i64 vt, .int .u8 vc, .int .i64 vi, .bool vl, .int .i64 vn]] w fun e w' => e = .returned (.agg #[.int .u8 ur, .int .u8 ug, .int .u8 ub, .int .u8 ua, .int .i64 ut, .int .u8 uc, .int .i64 vi, .bool ul, .int .i64 un]) ∧ Below w.heap.size w w' := by
  go_enter Try.func34, Try.ntmps34
  go_wp2
  exact bodyPost_ret (v := .agg #[.int .u8 ur, .int .u8 ug, .int .u8 ub, .int .u8 ua, .int .i64 ut, .int .u8 uc, .int .i64 vi, .bool ul, .int .i64 un]) (by simp [results, Try.results34, go_sem, ↓IntWalk.iteOmega]) rfl ⟨rfl, by with_reducible repeat (first | exact Below.refl _ _ | apply ba | apply bp | apply bd | apply bn)⟩

theorem withBlend_calls (ur ug ub ua ut uc ui : Int) (ul : Bool) (un : Int) (vr vg vb va vt vc vi : Int) (vl : Bool) (vn : Int) (w : World) :
    Calls Try.prog 35 #[.agg #[.int .u8 ur, .int .u8 ug, .int .u8 ub, .int .u8 ua, .int .i64 ut, .int .u8 uc, .int .i64 ui, .bool ul, .int .i64 un], .agg #[.int .u8 vr, .int .u8 vg, .int .u8 vb, .int .u8 va, .int .i64 vt, .int .u8 vc, .int .i64 vi, .bool vl, .int .i64 vn]] w fun e w' => e = .returned (.agg #[.int .u8 ur, .int .u8 ug, .int .u8 ub, .int .u8 ua, .int .i64 ut, .int .u8 uc, .int .i64 ui, .bool vl, .int .i64 vn]) ∧ Below w.heap.size w w' := by
  go_enter Try.func35, Try.ntmps35
  go_wp2
  go_region
  all_goals
    go_wp2
    exact bodyPost_ret (v := .agg #[.int .u8 ur, .int .u8 ug, .int .u8 ub, .int .u8 ua, .int .i64 ut, .int .u8 uc, .int .i64 ui, .bool vl, .int .i64 vn]) (by simp [results, Try.results35, go_sem, ↓IntWalk.iteOmega]) rfl ⟨rfl, by with_reducible repeat (first | exact Below.refl _ _ | apply ba | apply bp | apply bd | apply bn)⟩

end Go.Proofs.Ythcplebmffbmpaa
