/- What box.corner gives, and the statements' own corner. -/
import Derived.Test.YtondjoilcpcneaaBox3
namespace Go.Proofs.Ytondjoilcpcneaa
open Go.RowKit Go.ChangeShapes Go.WideShapes Go.ChangeAt
set_option linter.unusedSimpArgs false
set_option linter.unusedVariables false
attribute [local go_sem] plus_size plus_drew dn_set dn_alloc dn_plus plus_dn cell_plus frozen_plus set_plus cell_alloc frozen_alloc set_alloc

/-- a box' corner by its number: each bit tells of one of the three numbers whether it is High's -/
def cornerN (b : B6) (i : Nat) : V3 := ⟨if i % 2 = 1 then b.hi.x else b.lo.x, if i / 2 % 2 = 1 then b.hi.y else b.lo.y, if i / 4 = 1 then b.hi.z else b.lo.z⟩

@[local go_sem] theorem bit_0_1 : bits BinOp.and IntKind.i64 0 1 = 0 := by kernel_rfl
@[local go_sem] theorem bit_0_2 : bits BinOp.and IntKind.i64 0 2 = 0 := by kernel_rfl
@[local go_sem] theorem bit_0_4 : bits BinOp.and IntKind.i64 0 4 = 0 := by kernel_rfl
@[local go_sem] theorem bit_1_1 : bits BinOp.and IntKind.i64 1 1 = 1 := by kernel_rfl
@[local go_sem] theorem bit_1_2 : bits BinOp.and IntKind.i64 1 2 = 0 := by kernel_rfl
@[local go_sem] theorem bit_1_4 : bits BinOp.and IntKind.i64 1 4 = 0 := by kernel_rfl
@[local go_sem] theorem bit_2_1 : bits BinOp.and IntKind.i64 2 1 = 0 := by kernel_rfl
@[local go_sem] theorem bit_2_2 : bits BinOp.and IntKind.i64 2 2 = 2 := by kernel_rfl
@[local go_sem] theorem bit_2_4 : bits BinOp.and IntKind.i64 2 4 = 0 := by kernel_rfl
@[local go_sem] theorem bit_3_1 : bits BinOp.and IntKind.i64 3 1 = 1 := by kernel_rfl
@[local go_sem] theorem bit_3_2 : bits BinOp.and IntKind.i64 3 2 = 2 := by kernel_rfl
@[local go_sem] theorem bit_3_4 : bits BinOp.and IntKind.i64 3 4 = 0 := by kernel_rfl
@[local go_sem] theorem bit_4_1 : bits BinOp.and IntKind.i64 4 1 = 0 := by kernel_rfl
@[local go_sem] theorem bit_4_2 : bits BinOp.and IntKind.i64 4 2 = 0 := by kernel_rfl
@[local go_sem] theorem bit_4_4 : bits BinOp.and IntKind.i64 4 4 = 4 := by kernel_rfl
@[local go_sem] theorem bit_5_1 : bits BinOp.and IntKind.i64 5 1 = 1 := by kernel_rfl
@[local go_sem] theorem bit_5_2 : bits BinOp.and IntKind.i64 5 2 = 0 := by kernel_rfl
@[local go_sem] theorem bit_5_4 : bits BinOp.and IntKind.i64 5 4 = 4 := by kernel_rfl
@[local go_sem] theorem bit_6_1 : bits BinOp.and IntKind.i64 6 1 = 0 := by kernel_rfl
@[local go_sem] theorem bit_6_2 : bits BinOp.and IntKind.i64 6 2 = 2 := by kernel_rfl
@[local go_sem] theorem bit_6_4 : bits BinOp.and IntKind.i64 6 4 = 4 := by kernel_rfl
@[local go_sem] theorem bit_7_1 : bits BinOp.and IntKind.i64 7 1 = 1 := by kernel_rfl
@[local go_sem] theorem bit_7_2 : bits BinOp.and IntKind.i64 7 2 = 2 := by kernel_rfl
@[local go_sem] theorem bit_7_4 : bits BinOp.and IntKind.i64 7 4 = 4 := by kernel_rfl

theorem corner0 (a b c d o f : Int) (w : World) :
    Calls Try.prog 26 #[.agg #[.int .i64 a, .int .i64 b, .int .i64 c, .int .i64 d, .int .i64 o, .int .i64 f], .int .i64 0] w fun e w' => e = .returned (.agg #[.int .i64 a, .int .i64 b, .int .i64 c]) ∧ Below w.heap.size w w' := by
  go_enter Try.func26, Try.ntmps26
  go_wp2_with (go_at_call 43; refine (choose_calls _ _ _ _ _ _ _ _ (by simp [go_sem, ↓IntWalk.iteOmega]; rfl) (by simp [go_sem, ↓IntWalk.iteOmega] <;> (intros; exfalso; omega)) (by simp [go_sem, ↓IntWalk.iteOmega]; rfl)).mono ?_; rintro e w' ⟨rfl, rfl⟩)
  exact bodyPost_ret (v := .agg #[.int .i64 a, .int .i64 b, .int .i64 c]) (by simp [results, Try.results26, go_sem, ↓IntWalk.iteOmega]) rfl ⟨rfl, by with_reducible repeat (first | exact Below.refl _ _ | apply ba | apply bp | apply bd | apply bn)⟩

theorem corner1 (a b c d o f : Int) (w : World) :
    Calls Try.prog 26 #[.agg #[.int .i64 a, .int .i64 b, .int .i64 c, .int .i64 d, .int .i64 o, .int .i64 f], .int .i64 1] w fun e w' => e = .returned (.agg #[.int .i64 d, .int .i64 b, .int .i64 c]) ∧ Below w.heap.size w w' := by
  go_enter Try.func26, Try.ntmps26
  go_wp2_with (go_at_call 43; refine (choose_calls _ _ _ _ _ _ _ _ (by simp [go_sem, ↓IntWalk.iteOmega]; rfl) (by simp [go_sem, ↓IntWalk.iteOmega] <;> (intros; exfalso; omega)) (by simp [go_sem, ↓IntWalk.iteOmega]; rfl)).mono ?_; rintro e w' ⟨rfl, rfl⟩)
  exact bodyPost_ret (v := .agg #[.int .i64 d, .int .i64 b, .int .i64 c]) (by simp [results, Try.results26, go_sem, ↓IntWalk.iteOmega]) rfl ⟨rfl, by with_reducible repeat (first | exact Below.refl _ _ | apply ba | apply bp | apply bd | apply bn)⟩

theorem corner2 (a b c d o f : Int) (w : World) :
    Calls Try.prog 26 #[.agg #[.int .i64 a, .int .i64 b, .int .i64 c, .int .i64 d, .int .i64 o, .int .i64 f], .int .i64 2] w fun e w' => e = .returned (.agg #[.int .i64 a, .int .i64 o, .int .i64 c]) ∧ Below w.heap.size w w' := by
  go_enter Try.func26, Try.ntmps26
  go_wp2_with (go_at_call 43; refine (choose_calls _ _ _ _ _ _ _ _ (by simp [go_sem, ↓IntWalk.iteOmega]; rfl) (by simp [go_sem, ↓IntWalk.iteOmega] <;> (intros; exfalso; omega)) (by simp [go_sem, ↓IntWalk.iteOmega]; rfl)).mono ?_; rintro e w' ⟨rfl, rfl⟩)
  exact bodyPost_ret (v := .agg #[.int .i64 a, .int .i64 o, .int .i64 c]) (by simp [results, Try.results26, go_sem, ↓IntWalk.iteOmega]) rfl ⟨rfl, by with_reducible repeat (first | exact Below.refl _ _ | apply ba | apply bp | apply bd | apply bn)⟩

theorem corner3 (a b c d o f : Int) (w : World) :
    Calls Try.prog 26 #[.agg #[.int .i64 a, .int .i64 b, .int .i64 c, .int .i64 d, .int .i64 o, .int .i64 f], .int .i64 3] w fun e w' => e = .returned (.agg #[.int .i64 d, .int .i64 o, .int .i64 c]) ∧ Below w.heap.size w w' := by
  go_enter Try.func26, Try.ntmps26
  go_wp2_with (go_at_call 43; refine (choose_calls _ _ _ _ _ _ _ _ (by simp [go_sem, ↓IntWalk.iteOmega]; rfl) (by simp [go_sem, ↓IntWalk.iteOmega] <;> (intros; exfalso; omega)) (by simp [go_sem, ↓IntWalk.iteOmega]; rfl)).mono ?_; rintro e w' ⟨rfl, rfl⟩)
  exact bodyPost_ret (v := .agg #[.int .i64 d, .int .i64 o, .int .i64 c]) (by simp [results, Try.results26, go_sem, ↓IntWalk.iteOmega]) rfl ⟨rfl, by with_reducible repeat (first | exact Below.refl _ _ | apply ba | apply bp | apply bd | apply bn)⟩

theorem corner4 (a b c d o f : Int) (w : World) :
    Calls Try.prog 26 #[.agg #[.int .i64 a, .int .i64 b, .int .i64 c, .int .i64 d, .int .i64 o, .int .i64 f], .int .i64 4] w fun e w' => e = .returned (.agg #[.int .i64 a, .int .i64 b, .int .i64 f]) ∧ Below w.heap.size w w' := by
  go_enter Try.func26, Try.ntmps26
  go_wp2_with (go_at_call 43; refine (choose_calls _ _ _ _ _ _ _ _ (by simp [go_sem, ↓IntWalk.iteOmega]; rfl) (by simp [go_sem, ↓IntWalk.iteOmega] <;> (intros; exfalso; omega)) (by simp [go_sem, ↓IntWalk.iteOmega]; rfl)).mono ?_; rintro e w' ⟨rfl, rfl⟩)
  exact bodyPost_ret (v := .agg #[.int .i64 a, .int .i64 b, .int .i64 f]) (by simp [results, Try.results26, go_sem, ↓IntWalk.iteOmega]) rfl ⟨rfl, by with_reducible repeat (first | exact Below.refl _ _ | apply ba | apply bp | apply bd | apply bn)⟩

theorem corner5 (a b c d o f : Int) (w : World) :
    Calls Try.prog 26 #[.agg #[.int .i64 a, .int .i64 b, .int .i64 c, .int .i64 d, .int .i64 o, .int .i64 f], .int .i64 5] w fun e w' => e = .returned (.agg #[.int .i64 d, .int .i64 b, .int .i64 f]) ∧ Below w.heap.size w w' := by
  go_enter Try.func26, Try.ntmps26
  go_wp2_with (go_at_call 43; refine (choose_calls _ _ _ _ _ _ _ _ (by simp [go_sem, ↓IntWalk.iteOmega]; rfl) (by simp [go_sem, ↓IntWalk.iteOmega] <;> (intros; exfalso; omega)) (by simp [go_sem, ↓IntWalk.iteOmega]; rfl)).mono ?_; rintro e w' ⟨rfl, rfl⟩)
  exact bodyPost_ret (v := .agg #[.int .i64 d, .int .i64 b, .int .i64 f]) (by simp [results, Try.results26, go_sem, ↓IntWalk.iteOmega]) rfl ⟨rfl, by with_reducible repeat (first | exact Below.refl _ _ | apply ba | apply bp | apply bd | apply bn)⟩

theorem corner6 (a b c d o f : Int) (w : World) :
    Calls Try.prog 26 #[.agg #[.int .i64 a, .int .i64 b, .int .i64 c, .int .i64 d, .int .i64 o, .int .i64 f], .int .i64 6] w fun e w' => e = .returned (.agg #[.int .i64 a, .int .i64 o, .int .i64 f]) ∧ Below w.heap.size w w' := by
  go_enter Try.func26, Try.ntmps26
  go_wp2_with (go_at_call 43; refine (choose_calls _ _ _ _ _ _ _ _ (by simp [go_sem, ↓IntWalk.iteOmega]; rfl) (by simp [go_sem, ↓IntWalk.iteOmega] <;> (intros; exfalso; omega)) (by simp [go_sem, ↓IntWalk.iteOmega]; rfl)).mono ?_; rintro e w' ⟨rfl, rfl⟩)
  exact bodyPost_ret (v := .agg #[.int .i64 a, .int .i64 o, .int .i64 f]) (by simp [results, Try.results26, go_sem, ↓IntWalk.iteOmega]) rfl ⟨rfl, by with_reducible repeat (first | exact Below.refl _ _ | apply ba | apply bp | apply bd | apply bn)⟩

theorem corner7 (a b c d o f : Int) (w : World) :
    Calls Try.prog 26 #[.agg #[.int .i64 a, .int .i64 b, .int .i64 c, .int .i64 d, .int .i64 o, .int .i64 f], .int .i64 7] w fun e w' => e = .returned (.agg #[.int .i64 d, .int .i64 o, .int .i64 f]) ∧ Below w.heap.size w w' := by
  go_enter Try.func26, Try.ntmps26
  go_wp2_with (go_at_call 43; refine (choose_calls _ _ _ _ _ _ _ _ (by simp [go_sem, ↓IntWalk.iteOmega]; rfl) (by simp [go_sem, ↓IntWalk.iteOmega] <;> (intros; exfalso; omega)) (by simp [go_sem, ↓IntWalk.iteOmega]; rfl)).mono ?_; rintro e w' ⟨rfl, rfl⟩)
  exact bodyPost_ret (v := .agg #[.int .i64 d, .int .i64 o, .int .i64 f]) (by simp [results, Try.results26, go_sem, ↓IntWalk.iteOmega]) rfl ⟨rfl, by with_reducible repeat (first | exact Below.refl _ _ | apply ba | apply bp | apply bd | apply bn)⟩

theorem corner_calls (a b c d o f : Int) (k : Nat) (hk : k < 8) (w : World) :
    Calls Try.prog 26 #[.agg #[.int .i64 a, .int .i64 b, .int .i64 c, .int .i64 d, .int .i64 o, .int .i64 f], .int .i64 (k : Int)] w fun e w' => e = .returned (.agg #[.int .i64 (cornerN ⟨⟨a, b, c⟩, ⟨d, o, f⟩⟩ k).x, .int .i64 (cornerN ⟨⟨a, b, c⟩, ⟨d, o, f⟩⟩ k).y, .int .i64 (cornerN ⟨⟨a, b, c⟩, ⟨d, o, f⟩⟩ k).z]) ∧ Below w.heap.size w w' := by
  match k, hk with
  | 0, _ => exact corner0 a b c d o f w
  | 1, _ => exact corner1 a b c d o f w
  | 2, _ => exact corner2 a b c d o f w
  | 3, _ => exact corner3 a b c d o f w
  | 4, _ => exact corner4 a b c d o f w
  | 5, _ => exact corner5 a b c d o f w
  | 6, _ => exact corner6 a b c d o f w
  | 7, _ => exact corner7 a b c d o f w

theorem lcorner0 (a b c d o f : Int) (w : World) :
    Calls Try.prog 25 #[.agg #[.int .i64 a, .int .i64 b, .int .i64 c, .int .i64 d, .int .i64 o, .int .i64 f], .int .i64 0] w fun e w' => e = .returned (.agg #[.int .i64 a, .int .i64 b, .int .i64 c]) ∧ Below w.heap.size w w' := by
  go_enter Try.func25, Try.ntmps25
  go_wp2
  exact bodyPost_ret (v := .agg #[.int .i64 a, .int .i64 b, .int .i64 c]) (by simp [results, Try.results25, go_sem, ↓IntWalk.iteOmega]) rfl ⟨rfl, by with_reducible repeat (first | exact Below.refl _ _ | apply ba | apply bp | apply bd | apply bn)⟩

theorem lcorner1 (a b c d o f : Int) (w : World) :
    Calls Try.prog 25 #[.agg #[.int .i64 a, .int .i64 b, .int .i64 c, .int .i64 d, .int .i64 o, .int .i64 f], .int .i64 1] w fun e w' => e = .returned (.agg #[.int .i64 d, .int .i64 b, .int .i64 c]) ∧ Below w.heap.size w w' := by
  go_enter Try.func25, Try.ntmps25
  go_wp2
  exact bodyPost_ret (v := .agg #[.int .i64 d, .int .i64 b, .int .i64 c]) (by simp [results, Try.results25, go_sem, ↓IntWalk.iteOmega]) rfl ⟨rfl, by with_reducible repeat (first | exact Below.refl _ _ | apply ba | apply bp | apply bd | apply bn)⟩

theorem lcorner2 (a b c d o f : Int) (w : World) :
    Calls Try.prog 25 #[.agg #[.int .i64 a, .int .i64 b, .int .i64 c, .int .i64 d, .int .i64 o, .int .i64 f], .int .i64 2] w fun e w' => e = .returned (.agg #[.int .i64 a, .int .i64 o, .int .i64 c]) ∧ Below w.heap.size w w' := by
  go_enter Try.func25, Try.ntmps25
  go_wp2
  exact bodyPost_ret (v := .agg #[.int .i64 a, .int .i64 o, .int .i64 c]) (by simp [results, Try.results25, go_sem, ↓IntWalk.iteOmega]) rfl ⟨rfl, by with_reducible repeat (first | exact Below.refl _ _ | apply ba | apply bp | apply bd | apply bn)⟩

theorem lcorner3 (a b c d o f : Int) (w : World) :
    Calls Try.prog 25 #[.agg #[.int .i64 a, .int .i64 b, .int .i64 c, .int .i64 d, .int .i64 o, .int .i64 f], .int .i64 3] w fun e w' => e = .returned (.agg #[.int .i64 d, .int .i64 o, .int .i64 c]) ∧ Below w.heap.size w w' := by
  go_enter Try.func25, Try.ntmps25
  go_wp2
  exact bodyPost_ret (v := .agg #[.int .i64 d, .int .i64 o, .int .i64 c]) (by simp [results, Try.results25, go_sem, ↓IntWalk.iteOmega]) rfl ⟨rfl, by with_reducible repeat (first | exact Below.refl _ _ | apply ba | apply bp | apply bd | apply bn)⟩

theorem lcorner4 (a b c d o f : Int) (w : World) :
    Calls Try.prog 25 #[.agg #[.int .i64 a, .int .i64 b, .int .i64 c, .int .i64 d, .int .i64 o, .int .i64 f], .int .i64 4] w fun e w' => e = .returned (.agg #[.int .i64 a, .int .i64 b, .int .i64 f]) ∧ Below w.heap.size w w' := by
  go_enter Try.func25, Try.ntmps25
  go_wp2
  exact bodyPost_ret (v := .agg #[.int .i64 a, .int .i64 b, .int .i64 f]) (by simp [results, Try.results25, go_sem, ↓IntWalk.iteOmega]) rfl ⟨rfl, by with_reducible repeat (first | exact Below.refl _ _ | apply ba | apply bp | apply bd | apply bn)⟩

theorem lcorner5 (a b c d o f : Int) (w : World) :
    Calls Try.prog 25 #[.agg #[.int .i64 a, .int .i64 b, .int .i64 c, .int .i64 d, .int .i64 o, .int .i64 f], .int .i64 5] w fun e w' => e = .returned (.agg #[.int .i64 d, .int .i64 b, .int .i64 f]) ∧ Below w.heap.size w w' := by
  go_enter Try.func25, Try.ntmps25
  go_wp2
  exact bodyPost_ret (v := .agg #[.int .i64 d, .int .i64 b, .int .i64 f]) (by simp [results, Try.results25, go_sem, ↓IntWalk.iteOmega]) rfl ⟨rfl, by with_reducible repeat (first | exact Below.refl _ _ | apply ba | apply bp | apply bd | apply bn)⟩

theorem lcorner6 (a b c d o f : Int) (w : World) :
    Calls Try.prog 25 #[.agg #[.int .i64 a, .int .i64 b, .int .i64 c, .int .i64 d, .int .i64 o, .int .i64 f], .int .i64 6] w fun e w' => e = .returned (.agg #[.int .i64 a, .int .i64 o, .int .i64 f]) ∧ Below w.heap.size w w' := by
  go_enter Try.func25, Try.ntmps25
  go_wp2
  exact bodyPost_ret (v := .agg #[.int .i64 a, .int .i64 o, .int .i64 f]) (by simp [results, Try.results25, go_sem, ↓IntWalk.iteOmega]) rfl ⟨rfl, by with_reducible repeat (first | exact Below.refl _ _ | apply ba | apply bp | apply bd | apply bn)⟩

theorem lcorner7 (a b c d o f : Int) (w : World) :
    Calls Try.prog 25 #[.agg #[.int .i64 a, .int .i64 b, .int .i64 c, .int .i64 d, .int .i64 o, .int .i64 f], .int .i64 7] w fun e w' => e = .returned (.agg #[.int .i64 d, .int .i64 o, .int .i64 f]) ∧ Below w.heap.size w w' := by
  go_enter Try.func25, Try.ntmps25
  go_wp2
  exact bodyPost_ret (v := .agg #[.int .i64 d, .int .i64 o, .int .i64 f]) (by simp [results, Try.results25, go_sem, ↓IntWalk.iteOmega]) rfl ⟨rfl, by with_reducible repeat (first | exact Below.refl _ _ | apply ba | apply bp | apply bd | apply bn)⟩

theorem lcorner_calls (a b c d o f : Int) (k : Nat) (hk : k < 8) (w : World) :
    Calls Try.prog 25 #[.agg #[.int .i64 a, .int .i64 b, .int .i64 c, .int .i64 d, .int .i64 o, .int .i64 f], .int .i64 (k : Int)] w fun e w' => e = .returned (.agg #[.int .i64 (cornerN ⟨⟨a, b, c⟩, ⟨d, o, f⟩⟩ k).x, .int .i64 (cornerN ⟨⟨a, b, c⟩, ⟨d, o, f⟩⟩ k).y, .int .i64 (cornerN ⟨⟨a, b, c⟩, ⟨d, o, f⟩⟩ k).z]) ∧ Below w.heap.size w w' := by
  match k, hk with
  | 0, _ => exact lcorner0 a b c d o f w
  | 1, _ => exact lcorner1 a b c d o f w
  | 2, _ => exact lcorner2 a b c d o f w
  | 3, _ => exact lcorner3 a b c d o f w
  | 4, _ => exact lcorner4 a b c d o f w
  | 5, _ => exact lcorner5 a b c d o f w
  | 6, _ => exact lcorner6 a b c d o f w
  | 7, _ => exact lcorner7 a b c d o f w

end Go.Proofs.Ytondjoilcpcneaa
