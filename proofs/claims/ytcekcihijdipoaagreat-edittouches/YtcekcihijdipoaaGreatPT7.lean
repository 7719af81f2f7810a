/- A pack of texts: St1, St6, Vec2, Vec4, Vec6, Ed3, Ed3k1, Ed3k2, Ed3k3, Ed3k4, Ed3k5, Ed4, Mesh2, Mesh3, Mesh7, MeshMath3, Mesh11, Mesh12, Nodes2, Nodes3, Nodes4, Ed5, EdLs, LoadPart. -/
import Derived.Test.YtcekcihijdipoaaGreatProg
import Derived.Deep.DeepCutAuto
import Derived.BigQuiet
import Derived.Test.YtcekcihijdipoaaGreatPT2
import Derived.Test.YtcekcihijdipoaaGreatPT3
import Derived.Test.YtcekcihijdipoaaGreatPT5
import Derived.Test.YtcekcihijdipoaaGreatPT4
import Derived.Test.YtcekcihijdipoaaGreatPT6
import Derived.Test.YtcekcihijdipoaaGreatPT1
namespace Go.Proofs.YtcekcihijdipoaaGreat

section


open Go.RowKit Go.ChangeShapes Go.WideShapes Go.ChangeAt

set_option linter.unusedSimpArgs false

set_option linter.unusedVariables false

attribute [local go_sem] plus_size plus_drew dn_set dn_alloc dn_plus plus_dn cell_plus frozen_plus set_plus cell_alloc frozen_alloc set_alloc

theorem and1 {n : Int} (h : U8 n) : bits .and .u8 n 1 = n % 2 := by
  have e : ∀ k : Fin 256, bits .and .u8 ((k.val : Nat) : Int) 1 = ((k.val : Nat) : Int) % 2 := by decide +kernel
  obtain ⟨h0, h1⟩ := h
  have := e ⟨n.toNat, by omega⟩
  simpa [Int.toNat_of_nonneg h0] using this

theorem look_or (ur ug ub ua ut uc ui : Int) (ul : Bool) (un : Int) : (ut < -1 ∧ lookOk ⟨ur, ug, ub, ua, ut, uc, ui, ul, un⟩ = false) ∨ (-1 ≤ ut ∧ 16 ≤ ut ∧ lookOk ⟨ur, ug, ub, ua, ut, uc, ui, ul, un⟩ = false) ∨ (-1 ≤ ut ∧ ut < 16 ∧ 2 < uc ∧ lookOk ⟨ur, ug, ub, ua, ut, uc, ui, ul, un⟩ = false) ∨ (-1 ≤ ut ∧ ut < 16 ∧ uc ≤ 2 ∧ ui < -1024 ∧ lookOk ⟨ur, ug, ub, ua, ut, uc, ui, ul, un⟩ = false) ∨
    (-1 ≤ ut ∧ ut < 16 ∧ uc ≤ 2 ∧ -1024 ≤ ui ∧ 1024 < ui ∧ lookOk ⟨ur, ug, ub, ua, ut, uc, ui, ul, un⟩ = false) ∨ (-1 ≤ ut ∧ ut < 16 ∧ uc ≤ 2 ∧ -1024 ≤ ui ∧ ui ≤ 1024 ∧ un < 0 ∧ lookOk ⟨ur, ug, ub, ua, ut, uc, ui, ul, un⟩ = false) ∨
    (-1 ≤ ut ∧ ut < 16 ∧ uc ≤ 2 ∧ -1024 ≤ ui ∧ ui ≤ 1024 ∧ 0 ≤ un ∧ 15 < un ∧ lookOk ⟨ur, ug, ub, ua, ut, uc, ui, ul, un⟩ = false) ∨ (-1 ≤ ut ∧ ut < 16 ∧ uc ≤ 2 ∧ -1024 ≤ ui ∧ ui ≤ 1024 ∧ 0 ≤ un ∧ un ≤ 15 ∧ lookOk ⟨ur, ug, ub, ua, ut, uc, ui, ul, un⟩ = true) := by
  have e : lookOk ⟨ur, ug, ub, ua, ut, uc, ui, ul, un⟩ = (decide (-1 ≤ ut) && (decide (ut < 16) && (decide (uc ≤ 2) && (decide (-1024 ≤ ui) && (decide (ui ≤ 1024) && (decide (0 ≤ un) && decide (un ≤ 15))))))) := rfl
  rw [e]
  clear e
  by_cases h0 : ut < -1
  · exact .inl ⟨h0, by rw [show decide (-1 ≤ ut) = false from decide_eq_false (by omega)]; rfl⟩
  have g0 : -1 ≤ ut := by omega
  by_cases h1 : 16 ≤ ut
  · exact .inr (.inl ⟨g0, h1, by rw [show decide (-1 ≤ ut) = true from decide_eq_true g0, show decide (ut < 16) = false from decide_eq_false (by omega)]; rfl⟩)
  have g1 : ut < 16 := by omega
  by_cases h2 : 2 < uc
  · exact .inr (.inr (.inl ⟨g0, g1, h2, by rw [show decide (-1 ≤ ut) = true from decide_eq_true g0, show decide (ut < 16) = true from decide_eq_true g1, show decide (uc ≤ 2) = false from decide_eq_false (by omega)]; rfl⟩))
  have g2 : uc ≤ 2 := by omega
  by_cases h3 : ui < -1024
  · exact .inr (.inr (.inr (.inl ⟨g0, g1, g2, h3, by rw [show decide (-1 ≤ ut) = true from decide_eq_true g0, show decide (ut < 16) = true from decide_eq_true g1, show decide (uc ≤ 2) = true from decide_eq_true g2, show decide (-1024 ≤ ui) = false from decide_eq_false (by omega)]; rfl⟩)))
  have g3 : -1024 ≤ ui := by omega
  by_cases h4 : 1024 < ui
  · exact .inr (.inr (.inr (.inr (.inl ⟨g0, g1, g2, g3, h4, by rw [show decide (-1 ≤ ut) = true from decide_eq_true g0, show decide (ut < 16) = true from decide_eq_true g1, show decide (uc ≤ 2) = true from decide_eq_true g2, show decide (-1024 ≤ ui) = true from decide_eq_true g3, show decide (ui ≤ 1024) = false from decide_eq_false (by omega)]; rfl⟩))))
  have g4 : ui ≤ 1024 := by omega
  by_cases h5 : un < 0
  · exact .inr (.inr (.inr (.inr (.inr (.inl ⟨g0, g1, g2, g3, g4, h5, by rw [show decide (-1 ≤ ut) = true from decide_eq_true g0, show decide (ut < 16) = true from decide_eq_true g1, show decide (uc ≤ 2) = true from decide_eq_true g2, show decide (-1024 ≤ ui) = true from decide_eq_true g3, show decide (ui ≤ 1024) = true from decide_eq_true g4, show decide (0 ≤ un) = false from decide_eq_false (by omega)]; rfl⟩)))))
  have g5 : 0 ≤ un := by omega
  by_cases h6 : 15 < un
  · exact .inr (.inr (.inr (.inr (.inr (.inr (.inl ⟨g0, g1, g2, g3, g4, g5, h6, by rw [show decide (-1 ≤ ut) = true from decide_eq_true g0, show decide (ut < 16) = true from decide_eq_true g1, show decide (uc ≤ 2) = true from decide_eq_true g2, show decide (-1024 ≤ ui) = true from decide_eq_true g3, show decide (ui ≤ 1024) = true from decide_eq_true g4, show decide (0 ≤ un) = true from decide_eq_true g5, show decide (un ≤ 15) = false from decide_eq_false (by omega)]; rfl⟩))))))
  have g6 : un ≤ 15 := by omega
  exact .inr (.inr (.inr (.inr (.inr (.inr (.inr (⟨g0, g1, g2, g3, g4, g5, g6, by rw [show decide (-1 ≤ ut) = true from decide_eq_true g0, show decide (ut < 16) = true from decide_eq_true g1, show decide (uc ≤ 2) = true from decide_eq_true g2, show decide (-1024 ≤ ui) = true from decide_eq_true g3, show decide (ui ≤ 1024) = true from decide_eq_true g4, show decide (0 ≤ un) = true from decide_eq_true g5, show decide (un ≤ 15) = true from decide_eq_true g6]; rfl⟩)))))))

set_option maxHeartbeats 2000000 in
theorem look_calls (ur ug ub ua ut uc ui : Int) (ul : Bool) (un : Int) (w : World) :
    Calls Tryz.prog 145 #[.agg #[.int .u8 ur, .int .u8 ug, .int .u8 ub, .int .u8 ua, .int .i64 ut, .int .u8 uc, .int .i64 ui, .bool ul, .int .i64 un]] w fun e w' => e = .returned (.int .i64 (lookErr ⟨ur, ug, ub, ua, ut, uc, ui, ul, un⟩)) ∧ Below w.heap.size w w' := by
  rcases look_or ur ug ub ua ut uc ui ul un with ⟨h1, hL⟩ | ⟨h1, h2, hL⟩ | ⟨h1, h2, h3, hL⟩ | ⟨h1, h2, h3, h4, hL⟩ | ⟨h1, h2, h3, h4, h5, hL⟩ | ⟨h1, h2, h3, h4, h5, h6, hL⟩ | ⟨h1, h2, h3, h4, h5, h6, h7, hL⟩ | ⟨h1, h2, h3, h4, h5, h6, h7, hL⟩
  all_goals
    rw [lookErr, hL]
    clear hL
    go_enter Tryz.func145, Tryz.ntmps145
    go_wp2
    go_ret
    exact ⟨rfl, skB⟩

theorem say_or {n : Int} (h : U8 n) : (n = 0 ∧ sayOk n = true) ∨ (n ≠ 0 ∧ n % 2 = 0 ∧ sayOk n = false) ∨ (n ≠ 0 ∧ n % 2 = 1 ∧ 7 < n ∧ sayOk n = false) ∨ (n ≠ 0 ∧ n % 2 = 1 ∧ n ≤ 7 ∧ sayOk n = true) := by
  obtain ⟨h0, h1⟩ := h
  have e : sayOk n = (decide (n = 0) || (decide (n = 1) || (decide (n = 3) || (decide (n = 5) || decide (n = 7))))) := rfl
  rw [e]
  simp only [Bool.or_eq_true, Bool.or_eq_false_iff, decide_eq_true_eq, decide_eq_false_iff_not]
  omega

theorem say_calls (n : Int) (hn : U8 n) (w : World) :
    Calls Tryz.prog 144 #[.int .u8 n] w fun e w' => e = .returned (.bool (sayOk n)) ∧ Below w.heap.size w w' := by
  have ha := and1 hn
  rcases say_or hn with ⟨rfl, hL⟩ | ⟨h1, h2, hL⟩ | ⟨h1, h2, h3, hL⟩ | ⟨h1, h2, h3, hL⟩
  all_goals
    rw [hL]
    try rw [h2] at ha
    try (have d1 : (n == 0) = false := by simp [h1])
    clear hL
    go_enter Tryz.func144, Tryz.ntmps144
    go_wp2
    go_ret
    exact ⟨by simp; try omega, skB⟩

end

section


open Go.RowKit Go.ChangeShapes Go.WideShapes Go.ChangeAt

set_option linter.unusedSimpArgs false

set_option linter.unusedVariables false

attribute [local go_sem] plus_size plus_drew dn_set dn_alloc dn_plus plus_dn cell_plus frozen_plus set_plus cell_alloc frozen_alloc set_alloc

attribute [local go_sem] eq4_refl eq5_refl

attribute [local go_sem] col_49

attribute [local go_sem] col_50

attribute [local go_sem] col9_49

attribute [local go_sem] col9_50

attribute [local go_sem] col8_49

attribute [local go_sem] col8_50

attribute [local go_sem] larr_48

structure PLift' (p : Prop) : Prop where
  out : p

end

section


open Go.RowKit Go.ChangeShapes Go.WideShapes Go.ChangeAt

set_option linter.unusedSimpArgs false

set_option linter.unusedVariables false

attribute [local go_sem] plus_size plus_drew dn_set dn_alloc dn_plus plus_dn cell_plus frozen_plus set_plus cell_alloc frozen_alloc set_alloc

attribute [local go_sem] ix3_0 ix3_1 ix3_2 ix9_0 ix9_1 ix9_2

theorem check_calls2 (x y z : Int) (w : World) :
    Calls Tryz.prog 95 #[.agg #[.int .i64 x, .int .i64 y, .int .i64 z]] w fun e w' => e = .returned (.int .i64 (chkV ⟨x, y, z⟩)) ∧ Below w.heap.size w w' := by
  cases hv : all3 ⟨x, y, z⟩ 4096
  · rw [show chkV ⟨x, y, z⟩ = 20 by simp [chkV, hv]]
    go_enter Tryz.func95, Tryz.ntmps95
    go_wp2_with (first | (go_at_call 149; refine (plus_post (numbers_calls _ _ _ _)).mono ?_; rintro e w' ⟨rfl, nx, rfl⟩) | (go_at_call 148; refine (plus_post (allWithin_calls _ _ _ _ (by omega) (by omega) _)).mono ?_; rintro e w' ⟨rfl, nx, rfl⟩))
    go_ret
    exact ⟨rfl, skB⟩
  · rw [show chkV ⟨x, y, z⟩ = 0 by simp [chkV, hv]]
    go_enter Tryz.func95, Tryz.ntmps95
    go_wp2_with (first | (go_at_call 149; refine (plus_post (numbers_calls _ _ _ _)).mono ?_; rintro e w' ⟨rfl, nx, rfl⟩) | (go_at_call 148; refine (plus_post (allWithin_calls _ _ _ _ (by omega) (by omega) _)).mono ?_; rintro e w' ⟨rfl, nx, rfl⟩))
    go_ret
    exact ⟨rfl, skB⟩

theorem checkMat_calls (a b c d o f g u i p q r : Int) (w : World) :
    Calls Tryz.prog 94 #[.agg #[.int .i64 a, .int .i64 b, .int .i64 c, .int .i64 d, .int .i64 o, .int .i64 f, .int .i64 g, .int .i64 u, .int .i64 i, .int .i64 p, .int .i64 q, .int .i64 r]] w fun e w' => e = .returned (.int .i64 (chkM ⟨⟨⟨a, b, c⟩, ⟨d, o, f⟩, ⟨g, u, i⟩⟩, ⟨p, q, r⟩⟩)) ∧ Below w.heap.size w w' := by
  cases hm : all9 ⟨⟨a, b, c⟩, ⟨d, o, f⟩, ⟨g, u, i⟩⟩ 1024
  · rw [show chkM ⟨⟨⟨a, b, c⟩, ⟨d, o, f⟩, ⟨g, u, i⟩⟩, ⟨p, q, r⟩⟩ = 20 by simp [chkM, mayM, hm]]
    go_enter Tryz.func94, Tryz.ntmps94
    go_wp2_with (first | (go_at_call 147; refine (plus_post (rowsWithin_calls _ _ _ _ _ _ _ _ _ _ (by omega) (by omega) _)).mono ?_; rintro e w' ⟨rfl, nx, rfl⟩) | (go_at_call 95; refine (plus_post (check_calls2 _ _ _ _)).mono ?_; rintro e w' ⟨rfl, nx, rfl⟩))
    go_ret
    exact ⟨rfl, skB⟩
  · rw [show chkM ⟨⟨⟨a, b, c⟩, ⟨d, o, f⟩, ⟨g, u, i⟩⟩, ⟨p, q, r⟩⟩ = chkV ⟨p, q, r⟩ by simp [chkM, chkV, mayM, hm]]
    go_enter Tryz.func94, Tryz.ntmps94
    go_wp2_with (first | (go_at_call 147; refine (plus_post (rowsWithin_calls _ _ _ _ _ _ _ _ _ _ (by omega) (by omega) _)).mono ?_; rintro e w' ⟨rfl, nx, rfl⟩) | (go_at_call 95; refine (plus_post (check_calls2 _ _ _ _)).mono ?_; rintro e w' ⟨rfl, nx, rfl⟩))
    go_ret
    exact ⟨rfl, skB⟩

end

section


open Go.RowKit Go.ChangeShapes Go.WideShapes Go.ChangeAt

set_option linter.unusedSimpArgs false

set_option linter.unusedVariables false

attribute [local go_sem] plus_size plus_drew dn_set dn_alloc dn_plus plus_dn cell_plus frozen_plus set_plus cell_alloc frozen_alloc set_alloc

attribute [local go_sem] ix3_0 ix3_1 ix3_2 ix9_0 ix9_1 ix9_2

end

section


open Go.RowKit Go.ChangeShapes Go.WideShapes Go.ChangeAt

set_option linter.unusedSimpArgs false

set_option linter.unusedVariables false

attribute [local go_sem] plus_size plus_drew dn_set dn_alloc dn_plus plus_dn cell_plus frozen_plus set_plus cell_alloc frozen_alloc set_alloc

attribute [local go_sem] ix3_0 ix3_1 ix3_2 ix9_0 ix9_1 ix9_2

end

section


open Go.RowKit Go.ChangeShapes Go.WideShapes Go.ChangeAt

set_option linter.unusedSimpArgs false

set_option linter.unusedVariables false

attribute [local go_sem] plus_size plus_drew dn_set dn_alloc dn_plus plus_dn cell_plus frozen_plus set_plus cell_alloc frozen_alloc set_alloc

def mayNd (nm nt : Nat) (n : Nd) : Bool :=
  decide (1 ≤ n.f.kind ∧ n.f.kind ≤ 5) && (styOk n.f.sty && (!(decide (0 < n.f.sty.s1) && decide ((nt : Int) ≤ n.f.sty.l.tx)) &&
  ((if n.f.kind = 2 then mayM n.f.m else eqmt n.f.m zeroM) && ((decide (n.f.kind = 3) || decide (n.f.on = 0)) && ((decide (n.f.kind = 4) || (eqv n.f.cen zeroV && decide (n.far.length = 0))) &&
  (if n.f.kind = 5 then decide (0 ≤ n.f.mesh ∧ n.f.mesh < nm) else decide (n.f.mesh = 0) && (all3 n.f.cen 4096 && distOk n.far)))))))

end

section


open Go.RowKit Go.ChangeShapes Go.WideShapes Go.ChangeAt

set_option linter.unusedSimpArgs false

set_option linter.unusedVariables false

attribute [local go_sem] plus_size plus_drew dn_set dn_alloc dn_plus plus_dn cell_plus frozen_plus set_plus cell_alloc frozen_alloc set_alloc

end

section


open Go.RowKit Go.ChangeShapes Go.WideShapes Go.ChangeAt

set_option linter.unusedSimpArgs false

set_option linter.unusedVariables false

attribute [local go_sem] plus_size plus_drew dn_set dn_alloc dn_plus plus_dn cell_plus frozen_plus set_plus cell_alloc frozen_alloc set_alloc

end

section


open Go.RowKit Go.ChangeShapes Go.WideShapes Go.ChangeAt

set_option linter.unusedSimpArgs false

set_option linter.unusedVariables false

attribute [local go_sem] plus_size plus_drew dn_set dn_alloc dn_plus plus_dn cell_plus frozen_plus set_plus cell_alloc frozen_alloc set_alloc

end

section


open Go.RowKit Go.ChangeShapes Go.WideShapes Go.ChangeAt

set_option linter.unusedSimpArgs false

set_option linter.unusedVariables false

attribute [local go_sem] plus_size plus_drew dn_set dn_alloc dn_plus plus_dn cell_plus frozen_plus set_plus cell_alloc frozen_alloc set_alloc

end

section


open Go.RowKit Go.ChangeShapes Go.WideShapes Go.ChangeAt

set_option linter.unusedSimpArgs false

set_option linter.unusedVariables false

attribute [local go_sem] plus_size plus_drew dn_set dn_alloc dn_plus plus_dn cell_plus frozen_plus set_plus cell_alloc frozen_alloc set_alloc

end

section


open Go.RowKit Go.ChangeShapes Go.WideShapes Go.ChangeAt

set_option linter.unusedSimpArgs false

set_option linter.unusedVariables false

attribute [local go_sem] plus_size plus_drew dn_set dn_alloc dn_plus plus_dn cell_plus frozen_plus set_plus cell_alloc frozen_alloc set_alloc

end

section


open Go.RowKit Go.ChangeShapes Go.WideShapes Go.ChangeAt

set_option linter.unusedSimpArgs false

set_option linter.unusedVariables false

attribute [local go_sem] plus_size plus_drew dn_set dn_alloc dn_plus plus_dn cell_plus frozen_plus set_plus cell_alloc frozen_alloc set_alloc

set_option maxHeartbeats 2000000 in
theorem stripOf_calls (ao : Option Addr) (n cap : Nat) (ix : List Int) (w : World) (hl : Lay fI w ao n ix) (hn : n ≤ 10000) :
    Calls Tryz.prog 191 #[.slice ao n cap] w fun e w' => ∃ ao' cap', e = .returned (.slice ao' (n - 2) cap') ∧ (∃ y, w' = plus w y) ∧ Own 40 3 fV w w' ao' (n - 2) cap' (firsts (stripT ix) (n - 2)) := by
  go_enter Tryz.func191, Tryz.ntmps191
  go_wp2
  go_loopw [3, 4] (fun v i wr => ∃ (k : Nat) (ao' : Option Addr) (cap' : Nat), k ≤ n - 2 ∧ i = .int .i64 (k : Nat) ∧ v = .slice ao' k cap' ∧ (∃ y, wr = plus w y) ∧ Own 40 3 fV w wr ao' k cap' (firsts (stripT ix) k)) (fun _ i _ => n - (intOf i).toNat)
  case atStart => exact ⟨0, none, 0, by omega, rfl, rfl, skM, own_nil⟩
  case round =>
    obtain ⟨k, ao', cap', hk, rfl, rfl, ⟨y, rfl⟩, hown⟩ := hrel
    by_cases hkl : k + 2 < n
    · obtain ⟨g, off, rfl, hg, hcell⟩ := hl.some (by omega)
      have c0 := cellI hl.len hcell (k := k) (by omega)
      have c1 := cellI hl.len hcell (k := k + 1) (by omega)
      have c2 := cellI hl.len hcell (k := k + 2) (by omega)
      have ik0 : (k : Int) < (n : Int) := by omega
      have ik1 : (k : Int) + 1 < (n : Int) := by omega
      have ip1 : (0 : Int) ≤ (k : Int) + 1 := by omega
      have iw1 : IntKind.i64.wrap ((k : Int) + 1) = (k : Int) + 1 := wrap_leM (by omega)
      have it1 : ((k : Int) + 1).toNat = k + 1 := by omega
      have ik2 : (k : Int) + 2 < (n : Int) := by omega
      have ip2 : (0 : Int) ≤ (k : Int) + 2 := by omega
      have iw2 : IntKind.i64.wrap ((k : Int) + 2) = (k : Int) + 2 := wrap_leM (by omega)
      have it2 : ((k : Int) + 2).toNat = k + 2 := by omega
      go_wp2
      refine region_fresh 15 5 (.cells #[.int .i64 0, .int .i64 0, .int .i64 0] 40) (by kernel_rfl) (by kernel_rfl) rfl (fun _ _ x _ _ h => by cases x <;> exact h) (fun _ _ => by kernel_rfl) ?_
      apply Exists.intro
      refine ⟨fun x0 => ?_, fun x1 x2 => ?_⟩
      · simp only [List.take_succ_cons, List.take_zero]
        (repeat (go_big_quiet_step (fail)))
        exact wpQuiet_nil rfl
      simp only [List.drop_succ_cons, List.drop_zero]
      by_cases np : k % 2 = 1
      · have ie : (k : Int) % 2 = 1 := by omega
        go_wp2_with (at_builtin; (refine wpList_append_lay (T := w) rfl _ _ rfl kinT fV_c fV_1 rfl skM (hown.ex skM) rfl (l2 := [stripT ix k]) ⟨rfl, .inr ⟨_, 0, rfl, by simp [go_sem]; try omega, fun jj u hu => by match jj, hu with | 0, hu => (simp [fV, stripT, np] at hu; subst hu; simp [go_sem, ↓IntWalk.iteOmega]) | 1, hu => (simp [fV, stripT, np] at hu; subst hu; simp [go_sem, ↓IntWalk.iteOmega]) | 2, hu => (simp [fV, stripT, np] at hu; subst hu; simp [go_sem, ↓IntWalk.iteOmega]) | jj + 3, hu => simp [fV] at hu⟩⟩ (by omega) (by decide) ?_; intro ao' cap' y' hown'))
        go_roundw
        case rel => exact ⟨k + 1, ao', cap', by omega, by go_num, rfl, ⟨y', rfl⟩, by rw [← firsts_succ]; exact hown'⟩
        case measure => simp [intOf]; omega
      have ie : ¬ (k : Int) % 2 = 1 := by omega
      go_wp2_with (at_builtin; (refine wpList_append_lay (T := w) rfl _ _ rfl kinT fV_c fV_1 rfl skM (hown.ex skM) rfl (l2 := [stripT ix k]) ⟨rfl, .inr ⟨_, 0, rfl, by simp [go_sem]; try omega, fun jj u hu => by match jj, hu with | 0, hu => (simp [fV, stripT, np] at hu; subst hu; simp [go_sem, ↓IntWalk.iteOmega]) | 1, hu => (simp [fV, stripT, np] at hu; subst hu; simp [go_sem, ↓IntWalk.iteOmega]) | 2, hu => (simp [fV, stripT, np] at hu; subst hu; simp [go_sem, ↓IntWalk.iteOmega]) | jj + 3, hu => simp [fV] at hu⟩⟩ (by omega) (by decide) ?_; intro ao' cap' y' hown'))
      go_roundw
      case rel => exact ⟨k + 1, ao', cap', by omega, by go_num, by rfl, ⟨y', rfl⟩, by rw [← firsts_succ]; exact hown'⟩
      case measure => simp [intOf]; omega
    · have ik : ¬ (k : Int) + 2 < (n : Int) := by omega
      obtain rfl : k = n - 2 := by omega
      go_wp2
      go_ret
      exact ⟨ao', cap', rfl, ⟨y, rfl⟩, hown⟩

end

section


open Go.RowKit Go.ChangeShapes Go.WideShapes Go.ChangeAt

set_option linter.unusedSimpArgs false

set_option linter.unusedVariables false

attribute [local go_sem] plus_size plus_drew dn_set dn_alloc dn_plus plus_dn cell_plus frozen_plus set_plus cell_alloc frozen_alloc set_alloc

theorem lengthMay_calls (kind : Int) (n : Nat) (w : World) (h0 : 0 ≤ kind) (h2 : kind ≤ 2) (hn : n ≤ 10000) :
    Calls Tryz.prog 181 #[.int .u8 kind, .int .i64 n] w fun e w' => e = .returned (.bool (lenOk kind n)) ∧ Below w.heap.size w w' := by
  rcases (show kind = 0 ∨ kind = 1 ∨ kind = 2 by omega) with rfl | rfl | rfl
  · by_cases h3 : n % 3 = 0
    · rw [show lenOk 0 n = true by simp [lenOk, h3]]
      have i3 : (n : Int) % 3 = 0 := by omega
      go_enter Tryz.func181, Tryz.ntmps181
      go_wp2
      go_ret
      exact ⟨rfl, skB⟩
    · rw [show lenOk 0 n = false by simp [lenOk, h3]]
      have i3 : ¬ (n : Int) % 3 = 0 := by omega
      have d3 : ((n : Int) % 3 == 0) = false := by simp [i3]
      go_enter Tryz.func181, Tryz.ntmps181
      go_wp2
      go_ret
      exact ⟨rfl, skB⟩
  · by_cases h3 : n = 0
    · subst h3
      rw [show lenOk 1 0 = true by simp [lenOk]]
      go_enter Tryz.func181, Tryz.ntmps181
      go_wp2
      go_ret
      exact ⟨rfl, skB⟩
    · by_cases h4 : 3 ≤ n
      · rw [show lenOk 1 n = true by simp [lenOk, h4]]
        have i3 : ¬ (n : Int) = 0 := by omega
        have d3 : ((n : Int) == 0) = false := by simp [h3]
        have i4 : (3 : Int) ≤ (n : Int) := by omega
        go_enter Tryz.func181, Tryz.ntmps181
        go_wp2
        go_ret
        exact ⟨rfl, skB⟩
      · rw [show lenOk 1 n = false by simp [lenOk, h3, h4]]
        have i3 : ¬ (n : Int) = 0 := by omega
        have d3 : ((n : Int) == 0) = false := by simp [h3]
        have i4 : ¬ (3 : Int) ≤ (n : Int) := by omega
        go_enter Tryz.func181, Tryz.ntmps181
        go_wp2
        go_ret
        exact ⟨rfl, skB⟩
  · by_cases h3 : n = 0
    · subst h3
      rw [show lenOk 2 0 = true by simp [lenOk]]
      go_enter Tryz.func181, Tryz.ntmps181
      go_wp2
      go_ret
      exact ⟨rfl, skB⟩
    · by_cases h4 : 3 ≤ n
      · rw [show lenOk 2 n = true by simp [lenOk, h4]]
        have i3 : ¬ (n : Int) = 0 := by omega
        have d3 : ((n : Int) == 0) = false := by simp [h3]
        have i4 : (3 : Int) ≤ (n : Int) := by omega
        go_enter Tryz.func181, Tryz.ntmps181
        go_wp2
        go_ret
        exact ⟨rfl, skB⟩
      · rw [show lenOk 2 n = false by simp [lenOk, h3, h4]]
        have i3 : ¬ (n : Int) = 0 := by omega
        have d3 : ((n : Int) == 0) = false := by simp [h3]
        have i4 : ¬ (3 : Int) ≤ (n : Int) := by omega
        go_enter Tryz.func181, Tryz.ntmps181
        go_wp2
        go_ret
        exact ⟨rfl, skB⟩

theorem triangles_calls (kind : Int) (ao : Option Addr) (n cap : Nat) (ix : List Int) (w : World) (hl : Lay fI w ao n ix) (hn : n ≤ 10000) :
    Calls Tryz.prog 182 #[.agg #[.int .u8 kind, .slice ao n cap]] w fun e w' => RetL fV w (prTris ⟨kind, ix⟩) e w' := by
  have hlen := hl.len
  by_cases h1 : kind = 1
  · subst h1
    go_enter Tryz.func182, Tryz.ntmps182
    go_wp2_with (first | (go_at_call 191; refine (stripOf_calls _ _ _ _ _ (hl.ex skM) hn).mono ?_; rintro e w' ⟨ao1, cap1, rfl, ⟨yao1, rfl⟩, hl1⟩) | (go_at_call 192; refine (fanOf_calls _ _ _ _ _ (hl.ex skM) hn).mono ?_; rintro e w' ⟨ao1, cap1, rfl, ⟨yao1, rfl⟩, hl1⟩) | (go_at_call 193; refine (threesOf_calls _ _ _ _ _ (hl.ex skM) hn).mono ?_; rintro e w' ⟨ao1, cap1, rfl, ⟨yao1, rfl⟩, hl1⟩))
    go_ret
    exact ⟨_, _, _, rfl, skM, by rw [show prTris ⟨1, ix⟩ = firsts (stripT ix) (n - 2) by rw [← hlen]; rfl]; exact hl1.lay⟩
  · by_cases h2 : kind = 2
    · subst h2
      go_enter Tryz.func182, Tryz.ntmps182
      go_wp2_with (first | (go_at_call 191; refine (stripOf_calls _ _ _ _ _ (hl.ex skM) hn).mono ?_; rintro e w' ⟨ao1, cap1, rfl, ⟨yao1, rfl⟩, hl1⟩) | (go_at_call 192; refine (fanOf_calls _ _ _ _ _ (hl.ex skM) hn).mono ?_; rintro e w' ⟨ao1, cap1, rfl, ⟨yao1, rfl⟩, hl1⟩) | (go_at_call 193; refine (threesOf_calls _ _ _ _ _ (hl.ex skM) hn).mono ?_; rintro e w' ⟨ao1, cap1, rfl, ⟨yao1, rfl⟩, hl1⟩))
      go_ret
      exact ⟨_, _, _, rfl, skM, by rw [show prTris ⟨2, ix⟩ = firsts (fanT ix) (n - 2) by rw [← hlen]; rfl]; exact hl1.lay⟩
    go_enter Tryz.func182, Tryz.ntmps182
    go_wp2_with (first | (go_at_call 191; refine (stripOf_calls _ _ _ _ _ (hl.ex skM) hn).mono ?_; rintro e w' ⟨ao1, cap1, rfl, ⟨yao1, rfl⟩, hl1⟩) | (go_at_call 192; refine (fanOf_calls _ _ _ _ _ (hl.ex skM) hn).mono ?_; rintro e w' ⟨ao1, cap1, rfl, ⟨yao1, rfl⟩, hl1⟩) | (go_at_call 193; refine (threesOf_calls _ _ _ _ _ (hl.ex skM) hn).mono ?_; rintro e w' ⟨ao1, cap1, rfl, ⟨yao1, rfl⟩, hl1⟩))
    go_ret
    exact ⟨_, _, _, rfl, skM, by rw [show prTris ⟨kind, ix⟩ = firsts (threeT ix) (n / 3) by rw [← hlen]; exact (if_neg h1).trans (if_neg h2)]; exact hl1.lay⟩

theorem mprim_calls (kind : Int) (ao : Option Addr) (n cap : Nat) (ix : List Int) (w : World) (h0 : 0 ≤ kind) (hl : Lay fI w ao n ix) (hn : n ≤ 9223372036854775807) :
    Calls Tryz.prog 173 #[.agg #[.int .u8 kind, .slice ao n cap]] w fun e w' => RetT fV w (prList ⟨kind, ix⟩) (.int .i64 (prErr ⟨kind, ix⟩)) e w' := by
  have hlen := hl.len
  by_cases h1 : 2 < kind
  · have he := prErr_kind (ix := ix) h1
    rw [he]
    go_enter Tryz.func173, Tryz.ntmps173
    go_wp2_with (first | (go_at_call 181; refine (plus_post (lengthMay_calls _ _ _ h0 (by omega) (by omega))).mono ?_; rintro e w' ⟨rfl, nx, rfl⟩) | (go_at_call 182; refine (triangles_calls _ _ _ _ _ _ (hl.ex skM) (by omega)).mono ?_; rintro e w' ⟨ao1, m1, cap1, rfl, ⟨yao1, rfl⟩, hl1⟩))
    exact bodyPost_ret (v := .tuple #[.slice none 0 0, .int .i64 2]) (by simp [results, Tryz.results173, go_sem]) rfl ⟨_, _, _, rfl, skM, by rw [prList_bad (by rw [he]; decide)]; exact Lay.nil⟩
  by_cases h2 : 200 < n
  · have he := prErr_many (ix := ix) h1 (by omega)
    rw [he]
    have i2 : (200 : Int) < (n : Int) := by omega
    go_enter Tryz.func173, Tryz.ntmps173
    go_wp2_with (first | (go_at_call 181; refine (plus_post (lengthMay_calls _ _ _ h0 (by omega) (by omega))).mono ?_; rintro e w' ⟨rfl, nx, rfl⟩) | (go_at_call 182; refine (triangles_calls _ _ _ _ _ _ (hl.ex skM) (by omega)).mono ?_; rintro e w' ⟨ao1, m1, cap1, rfl, ⟨yao1, rfl⟩, hl1⟩))
    exact bodyPost_ret (v := .tuple #[.slice none 0 0, .int .i64 4]) (by simp [results, Tryz.results173, go_sem]) rfl ⟨_, _, _, rfl, skM, by rw [prList_bad (by rw [he]; decide)]; exact Lay.nil⟩
  have i2 : ¬ (200 : Int) < (n : Int) := by omega
  cases h3 : lenOk kind n
  · have he := prErr_bad (ix := ix) h1 (by omega) (by rw [hlen]; exact h3)
    rw [he]
    go_enter Tryz.func173, Tryz.ntmps173
    go_wp2_with (first | (go_at_call 181; refine (plus_post (lengthMay_calls _ _ _ h0 (by omega) (by omega))).mono ?_; rintro e w' ⟨rfl, nx, rfl⟩) | (go_at_call 182; refine (triangles_calls _ _ _ _ _ _ (hl.ex skM) (by omega)).mono ?_; rintro e w' ⟨ao1, m1, cap1, rfl, ⟨yao1, rfl⟩, hl1⟩))
    exact bodyPost_ret (v := .tuple #[.slice none 0 0, .int .i64 40]) (by simp [results, Tryz.results173, go_sem]) rfl ⟨_, _, _, rfl, skM, by rw [prList_bad (by rw [he]; decide)]; exact Lay.nil⟩
  · have he := prErr_good (ix := ix) h1 (by omega) (by rw [hlen]; exact h3)
    rw [he]
    go_enter Tryz.func173, Tryz.ntmps173
    go_wp2_with (first | (go_at_call 181; refine (plus_post (lengthMay_calls _ _ _ h0 (by omega) (by omega))).mono ?_; rintro e w' ⟨rfl, nx, rfl⟩) | (go_at_call 182; refine (triangles_calls _ _ _ _ _ _ (hl.ex skM) (by omega)).mono ?_; rintro e w' ⟨ao1, m1, cap1, rfl, ⟨yao1, rfl⟩, hl1⟩))
    exact bodyPost_ret (v := .tuple #[.slice ao1 m1 cap1, .int .i64 0]) (by simp [results, Tryz.results173, go_sem]) rfl ⟨_, _, _, rfl, skM, by rw [prList_good he]; exact hl1⟩

end

section


open Go.RowKit Go.ChangeShapes Go.WideShapes Go.ChangeAt

set_option linter.unusedSimpArgs false

set_option linter.unusedVariables false

attribute [local go_sem] plus_size plus_drew dn_set dn_alloc dn_plus plus_dn cell_plus frozen_plus set_plus cell_alloc frozen_alloc set_alloc

attribute [local go_sem] eqarr_40 nearr_40 larr_40

attribute [local go_sem] eqarr_137 nearr_137 larr_137

attribute [local go_sem] isnil_47

attribute [local go_sem] isnil_57

attribute [local go_sem] isnil_58

attribute [local go_sem] isnil_59

end

section


open Go.RowKit

def vOk (v : V3) : Bool := [v.x, v.y, v.z].all (inR (-1024) 1024)

def uOk (p : Int × Int) : Bool := [p.1, p.2].all (inR 0 255)

def pOk (nv : Nat) (p : Pr) : Bool := decide (prErr p = 0) && p.ix.all (inR 0 ((nv : Int) - 1))

def tris (ps : List Pr) (k : Nat) : List V3 := (ps.take k).flatMap prTris

def trisN (ps : List Pr) (k : Nat) : Nat := (tris ps k).length

def psOk (nv : Nat) (ps : List Pr) : Bool := ps.all (pOk nv) && decide (trisN ps ps.length ≤ 64)

def msOk (m : Ms) : Bool := m.vs.all vOk && m.uv.length == m.vs.length && m.uv.all uOk && psOk m.vs.length m.ps

def msMany (m : Ms) : Prop := 64 < m.vs.length ∨ 64 < m.uv.length ∨ 16 < m.ps.length

def msErr (m : Ms) : Int := if 64 < m.vs.length ∨ 64 < m.uv.length ∨ 16 < m.ps.length then 4 else if msOk m = true then 0 else 40

def msList (m : Ms) : List V3 := if msErr m = 0 then tris m.ps m.ps.length else []

theorem tris_succ {ps : List Pr} {k : Nat} (hk : k < ps.length) : tris ps (k + 1) = tris ps k ++ prTris (nth dPr ps k) := by
  unfold tris
  rw [take_nth (d := dPr) hk, List.flatMap_append]
  simp

theorem trisN_succ {ps : List Pr} {k : Nat} (hk : k < ps.length) : trisN ps (k + 1) = trisN ps k + (prTris (nth dPr ps k)).length := by
  unfold trisN
  rw [tris_succ hk, List.length_append]

theorem prTris_200 {p : Pr} (h : prErr p = 0) : (prTris p).length ≤ 200 := by
  have h1 := prTris_le p
  unfold prErr at h
  split at h
  · cases h
  · split at h
    · cases h
    · omega

theorem ix_200 {p : Pr} (h : prErr p = 0) : p.ix.length ≤ 200 := by
  unfold prErr at h
  split at h
  · cases h
  · split at h
    · cases h
    · omega

theorem trisN_le {ps : List Pr} : ∀ {k : Nat}, k ≤ ps.length → (∀ j, j < k → prErr (nth dPr ps j) = 0) → trisN ps k ≤ 200 * k
  | 0, _, _ => by simp [trisN, tris]
  | k + 1, hk, h => by
    rw [trisN_succ (by omega)]
    have h1 := trisN_le (k := k) (by omega) (fun j hj => h j (by omega))
    have h2 := prTris_200 (h k (by omega))
    omega

theorem pOk_err {nv : Nat} {p : Pr} (h : pOk nv p = true) : prErr p = 0 := by
  simp only [pOk, Bool.and_eq_true, decide_eq_true_eq] at h
  exact h.1

theorem pOk_not1 {nv : Nat} {p : Pr} (h : prErr p ≠ 0) : pOk nv p = false := by simp [pOk, h]

theorem pOk_not2 {nv : Nat} {p : Pr} (h : p.ix.all (inR 0 ((nv : Int) - 1)) = false) : pOk nv p = false := by rw [pOk, h, Bool.and_false]

theorem pOk_yes {nv : Nat} {p : Pr} (h : prErr p = 0) (h2 : p.ix.all (inR 0 ((nv : Int) - 1)) = true) : pOk nv p = true := by rw [pOk, h2, Bool.and_true, decide_eq_true_eq]; exact h

theorem ps_errs {nv : Nat} {ps : List Pr} {k : Nat} (h : ∀ j, j < k → pOk nv (nth dPr ps j) = true) : ∀ j, j < k → prErr (nth dPr ps j) = 0 := fun j hj => pOk_err (h j hj)

end

section


open Go.RowKit Go.ChangeShapes Go.WideShapes Go.ChangeAt

set_option linter.unusedSimpArgs false

set_option linter.unusedVariables false

attribute [local go_sem] plus_size plus_drew dn_set dn_alloc dn_plus plus_dn cell_plus frozen_plus set_plus cell_alloc frozen_alloc set_alloc

attribute [local go_sem] eqarr_40 nearr_40 larr_40

attribute [local go_sem] eqarr_137 nearr_137 larr_137

attribute [local go_sem] isnil_47

attribute [local go_sem] isnil_57

attribute [local go_sem] isnil_58

attribute [local go_sem] isnil_59

def allOk (nv : Nat) (ps : List Pr) : Bool := ps.all (pOk nv)

def allListM (nv : Nat) (ps : List Pr) : List V3 := if allOk nv ps = true then tris ps ps.length else []

end

section


open Go.RowKit Go.ChangeShapes Go.WideShapes Go.ChangeAt

set_option linter.unusedSimpArgs false

set_option linter.unusedVariables false

attribute [local go_sem] plus_size plus_drew dn_set dn_alloc dn_plus plus_dn cell_plus frozen_plus set_plus cell_alloc frozen_alloc set_alloc

attribute [local go_sem] eqarr_40 nearr_40 larr_40

attribute [local go_sem] eqarr_137 nearr_137 larr_137

attribute [local go_sem] isnil_47

attribute [local go_sem] isnil_57

attribute [local go_sem] isnil_58

attribute [local go_sem] isnil_59

end

section


open Go.RowKit Go.ChangeShapes Go.WideShapes Go.ChangeAt

set_option linter.unusedSimpArgs false

set_option linter.unusedVariables false

attribute [local go_sem] plus_size plus_drew dn_set dn_alloc dn_plus plus_dn cell_plus frozen_plus set_plus cell_alloc frozen_alloc set_alloc

def fB (b : Bool) : List Value := [.bool b]

theorem name_world {α : Type} {F : α → World → Prop} {a : α} {w : World} (p : World → Prop) (hp : p w) (h : ∀ w', p w' → F a w') : F a w := h w hp

def Kin6 (g : Gr) : Prop := ∀ i, i < g.ks.length → ∀ x, x ∈ nth [] g.ks i → 0 ≤ x.1 ∧ x.1.toNat < g.ks.length

end

section


open Go.RowKit Go.ChangeShapes Go.WideShapes Go.ChangeAt

set_option linter.unusedSimpArgs false

set_option linter.unusedVariables false

attribute [local go_sem] plus_size plus_drew dn_set dn_alloc dn_plus plus_dn cell_plus frozen_plus set_plus cell_alloc frozen_alloc set_alloc

def allTo (o : List Bool) (cs : List Nat) (k : Nat) : Bool := (cs.take k).all fun c => nth false o c

end

section


open Go.RowKit Go.ChangeShapes Go.WideShapes Go.ChangeAt

set_option linter.unusedSimpArgs false

set_option linter.unusedVariables false

attribute [local go_sem] plus_size plus_drew dn_set dn_alloc dn_plus plus_dn cell_plus frozen_plus set_plus cell_alloc frozen_alloc set_alloc

theorem rows_no {g : Gr} {i : Nat} (hi : i < g.ks.length) (h : rowOk g.sl i (nth [] g.ks i) = false) : rowsOk g = false := by
  cases hv : rowsOk g with
  | false => rfl
  | true =>
    have := List.all_eq_true.1 hv i (List.mem_range.2 hi)
    rw [h] at this
    cases this

theorem rows_yes {g : Gr} (h : ∀ i, i < g.ks.length → rowOk g.sl i (nth [] g.ks i) = true) : rowsOk g = true := List.all_eq_true.2 fun i hi => h i (List.mem_range.1 hi)

end

section


open Go.RowKit Go.ChangeShapes Go.WideShapes Go.ChangeAt

set_option linter.unusedSimpArgs false

set_option linter.unusedVariables false

attribute [local go_sem] plus_size plus_drew dn_set dn_alloc dn_plus plus_dn cell_plus frozen_plus set_plus cell_alloc frozen_alloc set_alloc

def ldN (a : Addr) (n : Nat) : Sem (Array Value) := loadCellsFrom a 0 n #[]

theorem sameNd_at {h h2 : NH} {n n2 : Nd} {w : World} (hN : NodeAt w h n) (hN2 : NodeAt w h2 n2) (s1 : h.n ≤ 10000) (s2 : h2.n ≤ 10000) {b : Bool} (hb : sameNd n n2 = b) :
    Calls Tryz.prog 24 #[vN h, vN h2] w fun e w' => e = .returned (.bool b) ∧ ∃ y, w' = plus w y := by
  subst hb
  obtain ⟨⟨ak, ⟨⟨⟨am0, am1, am2⟩, ⟨am3, am4, am5⟩, ⟨am6, am7, am8⟩⟩, ⟨am9, am10, am11⟩⟩, ao, ⟨ac0, ac1, ac2⟩, ae, ⟨as0, as1, as2, as3, as4, ⟨as5, as6, as7, as8, as9, as10, as11, as12, as13⟩⟩⟩, aa, an, ax⟩ := h
  obtain ⟨⟨bk, ⟨⟨⟨bm0, bm1, bm2⟩, ⟨bm3, bm4, bm5⟩, ⟨bm6, bm7, bm8⟩⟩, ⟨bm9, bm10, bm11⟩⟩, bo, ⟨bc0, bc1, bc2⟩, be, ⟨bs0, bs1, bs2, bs3, bs4, ⟨bs5, bs6, bs7, bs8, bs9, bs10, bs11, bs12, bs13⟩⟩⟩, ba, bn, bx⟩ := h2
  obtain ⟨f, far⟩ := n
  obtain ⟨f2, far2⟩ := n2
  obtain rfl := hN.f
  obtain rfl := hN2.f
  exact sameNd_calls _ _ _ _ _ _ _ _ _ _ _ _ _ _ _ _ _ _ _ _ _ _ _ _ _ _ _ _ _ _ _ _ _ _ _ far _ _ _ _ _ _ _ _ _ _ _ _ _ _ _ _ _ _ _ _ _ _ _ _ _ _ _ _ _ _ _ _ _ _ _ far2 w hN.lay hN2.lay s1 s2

theorem nf0_B : NfB nf0 := ⟨⟨by decide, by decide⟩, ⟨by decide, by decide⟩, ⟨⟨by decide, by decide⟩, ⟨by decide, by decide⟩, ⟨by decide, by decide⟩, ⟨by decide, by decide⟩, ⟨by decide, by decide⟩, ⟨⟨by decide, by decide⟩, ⟨by decide, by decide⟩, ⟨by decide, by decide⟩, ⟨by decide, by decide⟩, ⟨by decide, by decide⟩⟩⟩⟩

theorem nd0_at (w : World) : NodeAt w nh0 nd0 := ⟨rfl, nf0_B, by decide, by decide, fun _ => ⟨rfl, rfl⟩, Lay.nil⟩

theorem build_node (w : World) : (Instr.build 56 #[]).run Tryz.prog w = .ok (.agg (List.toArray (.int .u8 0 :: .int .i64 0 :: .int .i64 0 :: .int .i64 0 :: .int .i64 0 :: .int .i64 0 :: .int .i64 0 :: .int .i64 0 :: .int .i64 0 :: .int .i64 0 :: .int .i64 0 :: .int .i64 0 :: .int .i64 0 :: .int .u16 0 :: .int .i64 0 :: .int .i64 0 :: .int .i64 0 :: .slice none 0 0 :: .int .i64 0 :: .int .u8 0 :: .int .u8 0 :: .int .u8 0 :: .int .u8 0 :: .int .u8 0 :: .int .u8 0 :: .int .u8 0 :: .int .u8 0 :: .int .u8 0 :: .int .i64 0 :: .int .u8 0 :: .int .i64 0 :: .bool false :: .int .i64 0 :: []))) w := run_build w 56 #[] _ (by kernel_rfl)

def mayTp (t : Tp) : Bool := mayT t.w t.h t.l.length

def edMsOk (m : Ms) : Bool := decide (msErr m = 0)

def storesOk (s : Sc) : Bool := s.ms.all edMsOk && (s.ts.all mayTp && (decide (s.ms.length ≤ 32) && decide (s.ts.length ≤ 16)))

theorem texMay {w : World} {h : TH} {t : Tp} (a : TexAt w h t) : mayT h.w h.h h.n = mayTp t := by rw [mayTp, a.we, a.he, a.tx.lay.len]

end

section


open Go.RowKit Go.ChangeShapes Go.WideShapes Go.ChangeAt

set_option linter.unusedSimpArgs false

set_option linter.unusedVariables false

attribute [local go_sem] plus_size plus_drew dn_set dn_alloc dn_plus plus_dn cell_plus frozen_plus set_plus cell_alloc frozen_alloc set_alloc

set_option maxRecDepth 100000 in
set_option maxHeartbeats 4000000 in
theorem lsameNd_calls (ak am0 am1 am2 am3 am4 am5 am6 am7 am8 am9 am10 am11 ao ac0 ac1 ac2 ae as0 as1 as2 as3 as4 as5 as6 as7 as8 as9 as10 as11 as13 : Int) (as12 : Bool) (aa : Option Addr) (an ax : Nat) (af : List Int) (bk bm0 bm1 bm2 bm3 bm4 bm5 bm6 bm7 bm8 bm9 bm10 bm11 bo bc0 bc1 bc2 be bs0 bs1 bs2 bs3 bs4 bs5 bs6 bs7 bs8 bs9 bs10 bs11 bs13 : Int) (bs12 : Bool) (ba : Option Addr) (bn bx : Nat) (bf : List Int) (w : World) (hl : Lay fI w aa an af) (hl2 : Lay fI w ba bn bf) (hn : an ≤ 10000) (hn2 : bn ≤ 10000) :
    Calls Tryz.prog 48 #[.agg (List.toArray (.int .u8 ak :: .int .i64 am0 :: .int .i64 am1 :: .int .i64 am2 :: .int .i64 am3 :: .int .i64 am4 :: .int .i64 am5 :: .int .i64 am6 :: .int .i64 am7 :: .int .i64 am8 :: .int .i64 am9 :: .int .i64 am10 :: .int .i64 am11 :: .int .u16 ao :: .int .i64 ac0 :: .int .i64 ac1 :: .int .i64 ac2 :: .slice aa an ax :: .int .i64 ae :: .int .u8 as0 :: .int .u8 as1 :: .int .u8 as2 :: .int .u8 as3 :: .int .u8 as4 :: .int .u8 as5 :: .int .u8 as6 :: .int .u8 as7 :: .int .u8 as8 :: .int .i64 as9 :: .int .u8 as10 :: .int .i64 as11 :: .bool as12 :: .int .i64 as13 :: [])), .agg (List.toArray (.int .u8 bk :: .int .i64 bm0 :: .int .i64 bm1 :: .int .i64 bm2 :: .int .i64 bm3 :: .int .i64 bm4 :: .int .i64 bm5 :: .int .i64 bm6 :: .int .i64 bm7 :: .int .i64 bm8 :: .int .i64 bm9 :: .int .i64 bm10 :: .int .i64 bm11 :: .int .u16 bo :: .int .i64 bc0 :: .int .i64 bc1 :: .int .i64 bc2 :: .slice ba bn bx :: .int .i64 be :: .int .u8 bs0 :: .int .u8 bs1 :: .int .u8 bs2 :: .int .u8 bs3 :: .int .u8 bs4 :: .int .u8 bs5 :: .int .u8 bs6 :: .int .u8 bs7 :: .int .u8 bs8 :: .int .i64 bs9 :: .int .u8 bs10 :: .int .i64 bs11 :: .bool bs12 :: .int .i64 bs13 :: []))] w fun e w' => e = .returned (.bool (sameNd ⟨⟨ak, ⟨⟨⟨am0, am1, am2⟩, ⟨am3, am4, am5⟩, ⟨am6, am7, am8⟩⟩, ⟨am9, am10, am11⟩⟩, ao, ⟨ac0, ac1, ac2⟩, ae, ⟨as0, as1, as2, as3, as4, ⟨as5, as6, as7, as8, as9, as10, as11, as12, as13⟩⟩⟩, af⟩ ⟨⟨bk, ⟨⟨⟨bm0, bm1, bm2⟩, ⟨bm3, bm4, bm5⟩, ⟨bm6, bm7, bm8⟩⟩, ⟨bm9, bm10, bm11⟩⟩, bo, ⟨bc0, bc1, bc2⟩, be, ⟨bs0, bs1, bs2, bs3, bs4, ⟨bs5, bs6, bs7, bs8, bs9, bs10, bs11, bs12, bs13⟩⟩⟩, bf⟩)) ∧ ∃ y, w' = plus w y := by
  by_cases hk : ak = bk
  rotate_left
  · rw [show sameNd ⟨⟨ak, ⟨⟨⟨am0, am1, am2⟩, ⟨am3, am4, am5⟩, ⟨am6, am7, am8⟩⟩, ⟨am9, am10, am11⟩⟩, ao, ⟨ac0, ac1, ac2⟩, ae, ⟨as0, as1, as2, as3, as4, ⟨as5, as6, as7, as8, as9, as10, as11, as12, as13⟩⟩⟩, af⟩ ⟨⟨bk, ⟨⟨⟨bm0, bm1, bm2⟩, ⟨bm3, bm4, bm5⟩, ⟨bm6, bm7, bm8⟩⟩, ⟨bm9, bm10, bm11⟩⟩, bo, ⟨bc0, bc1, bc2⟩, be, ⟨bs0, bs1, bs2, bs3, bs4, ⟨bs5, bs6, bs7, bs8, bs9, bs10, bs11, bs12, bs13⟩⟩⟩, bf⟩ = false by simp [sameNd, hk]]
    have dk : (ak == bk) = false := by rw [beq_eq_false_iff_ne]; exact hk
    go_enter Tryz.func48, Tryz.ntmps48
    go_wp2_with (go_at_call 93; refine (plus_post (equalI_calls _ _ _ _ _ _ af bf _ (hl.ex sk9) (hl2.ex sk9) hn hn2)).mono ?_; rintro e w' ⟨rfl, nx, rfl⟩)
    exact bodyPost_ret (v := .bool false) (by simp [results, Tryz.results48, go_sem]) rfl ⟨rfl, sk9⟩
  subst hk
  cases hm : eqmt ⟨⟨⟨am0, am1, am2⟩, ⟨am3, am4, am5⟩, ⟨am6, am7, am8⟩⟩, ⟨am9, am10, am11⟩⟩ ⟨⟨⟨bm0, bm1, bm2⟩, ⟨bm3, bm4, bm5⟩, ⟨bm6, bm7, bm8⟩⟩, ⟨bm9, bm10, bm11⟩⟩
  · rw [show sameNd ⟨⟨ak, ⟨⟨⟨am0, am1, am2⟩, ⟨am3, am4, am5⟩, ⟨am6, am7, am8⟩⟩, ⟨am9, am10, am11⟩⟩, ao, ⟨ac0, ac1, ac2⟩, ae, ⟨as0, as1, as2, as3, as4, ⟨as5, as6, as7, as8, as9, as10, as11, as12, as13⟩⟩⟩, af⟩ ⟨⟨ak, ⟨⟨⟨bm0, bm1, bm2⟩, ⟨bm3, bm4, bm5⟩, ⟨bm6, bm7, bm8⟩⟩, ⟨bm9, bm10, bm11⟩⟩, bo, ⟨bc0, bc1, bc2⟩, be, ⟨bs0, bs1, bs2, bs3, bs4, ⟨bs5, bs6, bs7, bs8, bs9, bs10, bs11, bs12, bs13⟩⟩⟩, bf⟩ = false by simp [sameNd, hm]]
    have qM := eqM_is hm
    go_enter Tryz.func48, Tryz.ntmps48
    go_wp2_with (go_at_call 93; refine (plus_post (equalI_calls _ _ _ _ _ _ af bf _ (hl.ex sk9) (hl2.ex sk9) hn hn2)).mono ?_; rintro e w' ⟨rfl, nx, rfl⟩)
    exact bodyPost_ret (v := .bool false) (by simp [results, Tryz.results48, go_sem]) rfl ⟨rfl, sk9⟩
  have qM := eqM_is hm
  by_cases ho : ao = bo
  rotate_left
  · rw [show sameNd ⟨⟨ak, ⟨⟨⟨am0, am1, am2⟩, ⟨am3, am4, am5⟩, ⟨am6, am7, am8⟩⟩, ⟨am9, am10, am11⟩⟩, ao, ⟨ac0, ac1, ac2⟩, ae, ⟨as0, as1, as2, as3, as4, ⟨as5, as6, as7, as8, as9, as10, as11, as12, as13⟩⟩⟩, af⟩ ⟨⟨ak, ⟨⟨⟨bm0, bm1, bm2⟩, ⟨bm3, bm4, bm5⟩, ⟨bm6, bm7, bm8⟩⟩, ⟨bm9, bm10, bm11⟩⟩, bo, ⟨bc0, bc1, bc2⟩, be, ⟨bs0, bs1, bs2, bs3, bs4, ⟨bs5, bs6, bs7, bs8, bs9, bs10, bs11, bs12, bs13⟩⟩⟩, bf⟩ = false by simp [sameNd, ho]]
    have dk : (ao == bo) = false := by rw [beq_eq_false_iff_ne]; exact ho
    go_enter Tryz.func48, Tryz.ntmps48
    go_wp2_with (go_at_call 93; refine (plus_post (equalI_calls _ _ _ _ _ _ af bf _ (hl.ex sk9) (hl2.ex sk9) hn hn2)).mono ?_; rintro e w' ⟨rfl, nx, rfl⟩)
    exact bodyPost_ret (v := .bool false) (by simp [results, Tryz.results48, go_sem]) rfl ⟨rfl, sk9⟩
  subst ho
  cases hc : eqv ⟨ac0, ac1, ac2⟩ ⟨bc0, bc1, bc2⟩
  · rw [show sameNd ⟨⟨ak, ⟨⟨⟨am0, am1, am2⟩, ⟨am3, am4, am5⟩, ⟨am6, am7, am8⟩⟩, ⟨am9, am10, am11⟩⟩, ao, ⟨ac0, ac1, ac2⟩, ae, ⟨as0, as1, as2, as3, as4, ⟨as5, as6, as7, as8, as9, as10, as11, as12, as13⟩⟩⟩, af⟩ ⟨⟨ak, ⟨⟨⟨bm0, bm1, bm2⟩, ⟨bm3, bm4, bm5⟩, ⟨bm6, bm7, bm8⟩⟩, ⟨bm9, bm10, bm11⟩⟩, ao, ⟨bc0, bc1, bc2⟩, be, ⟨bs0, bs1, bs2, bs3, bs4, ⟨bs5, bs6, bs7, bs8, bs9, bs10, bs11, bs12, bs13⟩⟩⟩, bf⟩ = false by simp [sameNd, hc]]
    have qV := eqV_is hc
    go_enter Tryz.func48, Tryz.ntmps48
    go_wp2_with (go_at_call 93; refine (plus_post (equalI_calls _ _ _ _ _ _ af bf _ (hl.ex sk9) (hl2.ex sk9) hn hn2)).mono ?_; rintro e w' ⟨rfl, nx, rfl⟩)
    exact bodyPost_ret (v := .bool false) (by simp [results, Tryz.results48, go_sem]) rfl ⟨rfl, sk9⟩
  have qV := eqV_is hc
  cases hf : sameI af bf
  · rw [show sameNd ⟨⟨ak, ⟨⟨⟨am0, am1, am2⟩, ⟨am3, am4, am5⟩, ⟨am6, am7, am8⟩⟩, ⟨am9, am10, am11⟩⟩, ao, ⟨ac0, ac1, ac2⟩, ae, ⟨as0, as1, as2, as3, as4, ⟨as5, as6, as7, as8, as9, as10, as11, as12, as13⟩⟩⟩, af⟩ ⟨⟨ak, ⟨⟨⟨bm0, bm1, bm2⟩, ⟨bm3, bm4, bm5⟩, ⟨bm6, bm7, bm8⟩⟩, ⟨bm9, bm10, bm11⟩⟩, ao, ⟨bc0, bc1, bc2⟩, be, ⟨bs0, bs1, bs2, bs3, bs4, ⟨bs5, bs6, bs7, bs8, bs9, bs10, bs11, bs12, bs13⟩⟩⟩, bf⟩ = false by simp [sameNd, hf]]
    go_enter Tryz.func48, Tryz.ntmps48
    go_wp2_with (go_at_call 93; refine (plus_post (equalI_calls _ _ _ _ _ _ af bf _ (hl.ex sk9) (hl2.ex sk9) hn hn2)).mono ?_; rintro e w' ⟨rfl, nx, rfl⟩)
    exact bodyPost_ret (v := .bool false) (by simp [results, Tryz.results48, go_sem]) rfl ⟨rfl, sk9⟩
  by_cases he : ae = be
  rotate_left
  · rw [show sameNd ⟨⟨ak, ⟨⟨⟨am0, am1, am2⟩, ⟨am3, am4, am5⟩, ⟨am6, am7, am8⟩⟩, ⟨am9, am10, am11⟩⟩, ao, ⟨ac0, ac1, ac2⟩, ae, ⟨as0, as1, as2, as3, as4, ⟨as5, as6, as7, as8, as9, as10, as11, as12, as13⟩⟩⟩, af⟩ ⟨⟨ak, ⟨⟨⟨bm0, bm1, bm2⟩, ⟨bm3, bm4, bm5⟩, ⟨bm6, bm7, bm8⟩⟩, ⟨bm9, bm10, bm11⟩⟩, ao, ⟨bc0, bc1, bc2⟩, be, ⟨bs0, bs1, bs2, bs3, bs4, ⟨bs5, bs6, bs7, bs8, bs9, bs10, bs11, bs12, bs13⟩⟩⟩, bf⟩ = false by simp [sameNd, he]]
    have dk : (ae == be) = false := by rw [beq_eq_false_iff_ne]; exact he
    go_enter Tryz.func48, Tryz.ntmps48
    go_wp2_with (go_at_call 93; refine (plus_post (equalI_calls _ _ _ _ _ _ af bf _ (hl.ex sk9) (hl2.ex sk9) hn hn2)).mono ?_; rintro e w' ⟨rfl, nx, rfl⟩)
    exact bodyPost_ret (v := .bool false) (by simp [results, Tryz.results48, go_sem]) rfl ⟨rfl, sk9⟩
  subst he
  cases hs : eqsy ⟨as0, as1, as2, as3, as4, ⟨as5, as6, as7, as8, as9, as10, as11, as12, as13⟩⟩ ⟨bs0, bs1, bs2, bs3, bs4, ⟨bs5, bs6, bs7, bs8, bs9, bs10, bs11, bs12, bs13⟩⟩
  · rw [show sameNd ⟨⟨ak, ⟨⟨⟨am0, am1, am2⟩, ⟨am3, am4, am5⟩, ⟨am6, am7, am8⟩⟩, ⟨am9, am10, am11⟩⟩, ao, ⟨ac0, ac1, ac2⟩, ae, ⟨as0, as1, as2, as3, as4, ⟨as5, as6, as7, as8, as9, as10, as11, as12, as13⟩⟩⟩, af⟩ ⟨⟨ak, ⟨⟨⟨bm0, bm1, bm2⟩, ⟨bm3, bm4, bm5⟩, ⟨bm6, bm7, bm8⟩⟩, ⟨bm9, bm10, bm11⟩⟩, ao, ⟨bc0, bc1, bc2⟩, ae, ⟨bs0, bs1, bs2, bs3, bs4, ⟨bs5, bs6, bs7, bs8, bs9, bs10, bs11, bs12, bs13⟩⟩⟩, bf⟩ = false by simp [sameNd, hs]]
    have qS := eqSy_is hs
    go_enter Tryz.func48, Tryz.ntmps48
    go_wp2_with (go_at_call 93; refine (plus_post (equalI_calls _ _ _ _ _ _ af bf _ (hl.ex sk9) (hl2.ex sk9) hn hn2)).mono ?_; rintro e w' ⟨rfl, nx, rfl⟩)
    exact bodyPost_ret (v := .bool false) (by simp [results, Tryz.results48, go_sem]) rfl ⟨rfl, sk9⟩
  have qS := eqSy_is hs
  rw [show sameNd ⟨⟨ak, ⟨⟨⟨am0, am1, am2⟩, ⟨am3, am4, am5⟩, ⟨am6, am7, am8⟩⟩, ⟨am9, am10, am11⟩⟩, ao, ⟨ac0, ac1, ac2⟩, ae, ⟨as0, as1, as2, as3, as4, ⟨as5, as6, as7, as8, as9, as10, as11, as12, as13⟩⟩⟩, af⟩ ⟨⟨ak, ⟨⟨⟨bm0, bm1, bm2⟩, ⟨bm3, bm4, bm5⟩, ⟨bm6, bm7, bm8⟩⟩, ⟨bm9, bm10, bm11⟩⟩, ao, ⟨bc0, bc1, bc2⟩, ae, ⟨bs0, bs1, bs2, bs3, bs4, ⟨bs5, bs6, bs7, bs8, bs9, bs10, bs11, bs12, bs13⟩⟩⟩, bf⟩ = true by simp [sameNd, hm, hc, hf, hs]]
  go_enter Tryz.func48, Tryz.ntmps48
  go_wp2_with (go_at_call 93; refine (plus_post (equalI_calls _ _ _ _ _ _ af bf _ (hl.ex sk9) (hl2.ex sk9) hn hn2)).mono ?_; rintro e w' ⟨rfl, nx, rfl⟩)
  exact bodyPost_ret (v := .bool true) (by simp [results, Tryz.results48, go_sem]) rfl ⟨rfl, sk9⟩

theorem lsameNd_at {h h2 : NH} {n n2 : Nd} {w : World} (hN : NodeAt w h n) (hN2 : NodeAt w h2 n2) (s1 : h.n ≤ 10000) (s2 : h2.n ≤ 10000) {b : Bool} (hb : sameNd n n2 = b) :
    Calls Tryz.prog 48 #[vN h, vN h2] w fun e w' => e = .returned (.bool b) ∧ ∃ y, w' = plus w y := by
  subst hb
  obtain ⟨⟨ak, ⟨⟨⟨am0, am1, am2⟩, ⟨am3, am4, am5⟩, ⟨am6, am7, am8⟩⟩, ⟨am9, am10, am11⟩⟩, ao, ⟨ac0, ac1, ac2⟩, ae, ⟨as0, as1, as2, as3, as4, ⟨as5, as6, as7, as8, as9, as10, as11, as12, as13⟩⟩⟩, aa, an, ax⟩ := h
  obtain ⟨⟨bk, ⟨⟨⟨bm0, bm1, bm2⟩, ⟨bm3, bm4, bm5⟩, ⟨bm6, bm7, bm8⟩⟩, ⟨bm9, bm10, bm11⟩⟩, bo, ⟨bc0, bc1, bc2⟩, be, ⟨bs0, bs1, bs2, bs3, bs4, ⟨bs5, bs6, bs7, bs8, bs9, bs10, bs11, bs12, bs13⟩⟩⟩, ba, bn, bx⟩ := h2
  obtain ⟨f, far⟩ := n
  obtain ⟨f2, far2⟩ := n2
  obtain rfl := hN.f
  obtain rfl := hN2.f
  exact lsameNd_calls _ _ _ _ _ _ _ _ _ _ _ _ _ _ _ _ _ _ _ _ _ _ _ _ _ _ _ _ _ _ _ _ _ _ _ far _ _ _ _ _ _ _ _ _ _ _ _ _ _ _ _ _ _ _ _ _ _ _ _ _ _ _ _ _ _ _ _ _ _ _ far2 w hN.lay hN2.lay s1 s2

end

section


open Go.RowKit

section

variable {P : Program}

theorem run_loadVar_part (w : World) (g off : Nat) (ty : TypeId) (cs : List Value) (d : TypeDesc) (hc : ∀ j v, cs[j]? = some v → w.cell? ⟨g, off + j, none⟩ = some v)
    (hu : P.underlying ty = some d) (hd : (match d with | .struct _ | .array _ _ => true | _ => false) = true) (hi : (P.info? ty).map (·.size) = some cs.length) :
    (loadVar ty ⟨g, off, none⟩).run P w = .ok (.agg cs.toArray) w := by
  have hl : (loadCells ⟨g, off, none⟩ cs.length).run P w = .ok cs.toArray w :=
    run_loadCells_list (P := P) w ⟨g, off, none⟩ cs (fun j v hv => by rw [add_none]; exact hc j v hv)
  cases hq : P.info? ty with
  | none => simp [hq] at hi
  | some i =>
    have hs : i.size = cs.length := by simpa [hq] using hi
    have hagg : (isAgg ty).run P w = .ok true w := by
      unfold isAgg
      rw [Sem.run_bind, run_underlying hu w]
      cases d <;> simp_all
    simp [loadVar, Sem.run_bind, hagg, sizeOf, typeInfo, hq, hs, hl]

variable {ops : Array Oper} {rest : List Oper} {o : Oper} {a : Act} {w : World}

theorem exec_load_part (ty : TypeId) (x : Operand) (ho : o.op = .load ty x) (g off : Nat) (hx : a.eval x = .pointer (some ⟨g, off, none⟩)) (cs : List Value) (d : TypeDesc) (hc : ∀ j v, cs[j]? = some v → w.cell? ⟨g, off + j, none⟩ = some v)
    (hu : P.underlying ty = some d) (hd : (match d with | .struct _ | .array _ _ => true | _ => false) = true) (hi : (P.info? ty).map (·.size) = some cs.length) :
    (execOp a.eval o).run P w = .ok (.value (.agg cs.toArray)) w := by
  unfold execOp
  simp only [ho, hx, Instr.loadAt, Instr.sureAddr, Sem.run_bind, Sem.run_pure, Result.andThen_ok, run_loadVar_part w g off ty cs d hc hu hd hi]

theorem wpList_load_part {Q : Exit → Act → World → Prop} (hgd : o.guard = none) (ty : TypeId) (x : Operand) (ho : o.op = .load ty x) (g off : Nat) (hx : a.eval x = .pointer (some ⟨g, off, none⟩)) (cs : List Value) (d : TypeDesc) (hc : ∀ j v, cs[j]? = some v → w.cell? ⟨g, off + j, none⟩ = some v)
    (hu : P.underlying ty = some d) (hd : (match d with | .struct _ | .array _ _ => true | _ => false) = true) (hi : (P.info? ty).map (·.size) = some cs.length)
    (h : wpList P ops Q rest (a.put o.dst (.agg cs.toArray)) w) : wpList P ops Q (o :: rest) a w :=
  wpList_plain hgd fun _ hK => by
    unfold Oper.wp
    rw [exec_load_part ty x ho g off hx cs d hc hu hd hi]
    exact hK _ _ h

theorem wpQuiet_load_part {C : World → Prop} {Q : Act → Prop} (hw : Region.wanted o (yielded ops a.tmps) = true) (ty : TypeId) (x : Operand) (ho : o.op = .load ty x) (g off : Nat) (hx : a.eval x = .pointer (some ⟨g, off, none⟩)) (cs : List Value) (d : TypeDesc) (hc : ∀ w, C w → ∀ j v, cs[j]? = some v → w.cell? ⟨g, off + j, none⟩ = some v)
    (hu : P.underlying ty = some d) (hd : (match d with | .struct _ | .array _ _ => true | _ => false) = true) (hi : (P.info? ty).map (·.size) = some cs.length)
    (h : wpQuiet P ops C Q rest (a.put o.dst (.agg cs.toArray))) : wpQuiet P ops C Q (o :: rest) a :=
  BigFrame.wpQuiet_want hw fun _ hK => ⟨_, fun w hC => by
    unfold Oper.quietAt
    rw [exec_load_part ty x ho g off hx cs d (hc w hC) hu hd hi]
    exact ⟨rfl, rfl⟩, hK _ h⟩

end

end

end Go.Proofs.YtcekcihijdipoaaGreat
