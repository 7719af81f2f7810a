/- What dioramalaw07's color, reds, greens and alive give. -/
import Derived.Test.YthcplebmffbmpaaSt8
namespace Go.Proofs.Ythcplebmffbmpaa
open Go.RowKit Go.ChangeShapes Go.WideShapes Go.ChangeAt
set_option linter.unusedSimpArgs false
set_option linter.unusedVariables false
attribute [local go_sem] plus_size plus_drew dn_set dn_alloc dn_plus plus_dn cell_plus frozen_plus set_plus cell_alloc frozen_alloc set_alloc

attribute [local go_sem] eq4_refl eq5_refl

attribute [local go_sem] col_22

attribute [local go_sem] col_23

attribute [local go_sem] col9_22

attribute [local go_sem] col9_23

attribute [local go_sem] col8_22

attribute [local go_sem] col8_23

attribute [local go_sem] kep_37

attribute [local go_sem] kep9_37

attribute [local go_sem] kep8_37

attribute [local go_sem] larr_29

attribute [local go_sem] larr_53

def colS (p : Bool × Int) : Sy := ⟨p.2, 0, 0, 0, 0, ⟨if p.1 then 255 else 0, if p.1 then 0 else 255, 0, 255, 0, 0, 0, false, 0⟩⟩
def cols (l : List (Bool × Int)) : List Sy := l.map colS
theorem col_b {p : Bool × Int} (h : U8 p.2) : SyB (colS p) := by
  obtain ⟨b, n⟩ := p
  have u0 : U8 0 := ⟨by decide, by decide⟩
  have u255 : U8 255 := ⟨by decide, by decide⟩
  cases b
  · exact ⟨h, u0, u0, u0, u0, ⟨u0, u255, u0, u255, u0⟩⟩
  · exact ⟨h, u0, u0, u0, u0, ⟨u255, u0, u0, u255, u0⟩⟩
theorem cols_b (l : List (Bool × Int)) (h : (l.all fun p => decide (0 ≤ p.2) && decide (p.2 ≤ 255)) = true) : ∀ k, k < l.length → SyB (nth sy0 (cols l) k) := by
  intro k hk
  have hk' : k < (cols l).length := by simpa [cols] using hk
  rw [nth_eq hk']
  simp only [cols, List.getElem_map]
  apply col_b
  have := List.all_eq_true.1 h _ (List.getElem_mem hk)
  simpa [U8] using this
theorem lay_new {α : Type} {f : α → List Value} {W : World} {c : Array Value} {t : TypeId} {g n : Nat} {l : List α} (hg : g = W.heap.size) (hl : l.length = n) (h : c.toList = l.flatMap f) : Lay f (W.alloc (.cells c t)) (some ⟨g, 0, none⟩) n l := by
  subst hg
  refine ⟨hl, .inr ⟨_, 0, rfl, by simp, fun j u hu => ?_⟩⟩
  rw [cell_alloc, if_pos rfl, Nat.zero_add]
  rw [← h] at hu
  simpa using hu

theorem color_calls (red : Bool) (n : Int) (w : World) :
    Calls Try.prog 9 #[.bool red, .int .u8 n] w fun e w' => e = .returned (.agg #[.int .u8 n, .int .u8 0, .int .u8 0, .int .u8 0, .int .u8 0, .int .u8 (if red then 255 else 0), .int .u8 (if red then 0 else 255), .int .u8 0, .int .u8 255, .int .i64 0, .int .u8 0, .int .i64 0, .bool false, .int .i64 0]) ∧ Below w.heap.size w w' := by
  cases red
  all_goals
    go_enter Try.func9, Try.ntmps9
    go_wp2
  · exact bodyPost_ret (v := .agg #[.int .u8 n, .int .u8 0, .int .u8 0, .int .u8 0, .int .u8 0, .int .u8 0, .int .u8 255, .int .u8 0, .int .u8 255, .int .i64 0, .int .u8 0, .int .i64 0, .bool false, .int .i64 0]) (by simp [results, Try.results9, go_sem, ↓IntWalk.iteOmega]) rfl ⟨rfl, by with_reducible repeat (first | exact Below.refl _ _ | apply ba | apply bp | apply bd | apply bn)⟩
  · exact bodyPost_ret (v := .agg #[.int .u8 n, .int .u8 0, .int .u8 0, .int .u8 0, .int .u8 0, .int .u8 255, .int .u8 0, .int .u8 0, .int .u8 255, .int .i64 0, .int .u8 0, .int .i64 0, .bool false, .int .i64 0]) (by simp [results, Try.results9, go_sem, ↓IntWalk.iteOmega]) rfl ⟨rfl, by with_reducible repeat (first | exact Below.refl _ _ | apply ba | apply bp | apply bd | apply bn)⟩

theorem reds_calls (ao : Option Addr) (n cap : Nat) (l : List Sy) (w : World) (hn : n ≤ 9223372036854775807) (hl : Lay fSy w ao n l) (hB : ∀ k, k < n → SyB (nth sy0 l k)) (h0 : alongErr l = 0) (h1 : eq4 (along l).r (along l).g (along l).b (along l).a 255 0 0 255 = true) :
    Calls Try.prog 10 #[.slice ao n cap] w fun e w' => e = .returned (.bool true) ∧ Below w.heap.size w w' := by
  obtain ⟨M, hM⟩ : ∃ M, along l = M := ⟨_, rfl⟩
  rw [hM] at h1
  go_enter Try.func10, Try.ntmps10
  go_wp2_with (go_at_call 8; refine (plus_post (along_calls _ _ _ l _ hn (hl.ex (by with_reducible repeat (first | exact ex_refl _ | exact ex_more | apply ex_alloc | apply ex_plus | apply ex_drew | apply ex_drewN))) hB)).mono ?_; rintro e w' ⟨rfl, nx, rfl⟩; simp only [hM, h0])
  go_ret
  exact ⟨rfl, by with_reducible repeat (first | exact Below.refl _ _ | apply ba | apply bp | apply bd | apply bn)⟩

theorem greens_calls (ao : Option Addr) (n cap : Nat) (l : List Sy) (w : World) (hn : n ≤ 9223372036854775807) (hl : Lay fSy w ao n l) (hB : ∀ k, k < n → SyB (nth sy0 l k)) (h0 : alongErr l = 0) (h1 : eq4 (along l).r (along l).g (along l).b (along l).a 0 255 0 255 = true) :
    Calls Try.prog 23 #[.slice ao n cap] w fun e w' => e = .returned (.bool true) ∧ Below w.heap.size w w' := by
  obtain ⟨M, hM⟩ : ∃ M, along l = M := ⟨_, rfl⟩
  rw [hM] at h1
  go_enter Try.func23, Try.ntmps23
  go_wp2_with (go_at_call 8; refine (plus_post (along_calls _ _ _ l _ hn (hl.ex (by with_reducible repeat (first | exact ex_refl _ | exact ex_more | apply ex_alloc | apply ex_plus | apply ex_drew | apply ex_drewN))) hB)).mono ?_; rintro e w' ⟨rfl, nx, rfl⟩; simp only [hM, h0])
  go_ret
  exact ⟨rfl, by with_reducible repeat (first | exact Below.refl _ _ | apply ba | apply bp | apply bd | apply bn)⟩

set_option maxRecDepth 100000 in
set_option maxHeartbeats 8000000 in
theorem alive_calls (w : World) : Calls Try.prog 11 #[] w fun e w' => e = .returned (.bool true) ∧ Below w.heap.size w w' := by
  go_enter Try.func11, Try.ntmps11
  go_wp2_with (first | (go_at_call 9; refine (plus_in (T := w) (by with_reducible repeat (first | exact ex_refl _ | exact ex_more | apply ex_alloc | apply ex_plus | apply ex_drew | apply ex_drewN)) (color_calls _ _ _)).mono ?_; rintro e w' ⟨rfl, nx, rfl⟩) | (go_at_call 23; refine (plus_in (T := w) (by with_reducible repeat (first | exact ex_refl _ | exact ex_more | apply ex_alloc | apply ex_plus | apply ex_drew | apply ex_drewN)) (greens_calls _ _ _ (cols [(true, 1), (false, 1)]) _ (by decide) (lay_new (plus_size _ _).symm (by decide) (by rfl)) (cols_b [(true, 1), (false, 1)] (by decide)) (by decide +kernel) (by decide +kernel))).mono ?_; rintro e w' ⟨rfl, nx, rfl⟩) | (go_at_call 23; refine (plus_in (T := w) (by with_reducible repeat (first | exact ex_refl _ | exact ex_more | apply ex_alloc | apply ex_plus | apply ex_drew | apply ex_drewN)) (greens_calls _ _ _ (cols [(true, 3), (false, 5)]) _ (by decide) (lay_new (plus_size _ _).symm (by decide) (by rfl)) (cols_b [(true, 3), (false, 5)] (by decide)) (by decide +kernel) (by decide +kernel))).mono ?_; rintro e w' ⟨rfl, nx, rfl⟩) | (go_at_call 10; refine (plus_in (T := w) (by with_reducible repeat (first | exact ex_refl _ | exact ex_more | apply ex_alloc | apply ex_plus | apply ex_drew | apply ex_drewN)) (reds_calls _ _ _ (cols [(true, 3), (false, 1)]) _ (by decide) (lay_new (plus_size _ _).symm (by decide) (by rfl)) (cols_b [(true, 3), (false, 1)] (by decide)) (by decide +kernel) (by decide +kernel))).mono ?_; rintro e w' ⟨rfl, nx, rfl⟩))
  go_ret
  exact ⟨rfl, by with_reducible repeat (first | exact Below.refl _ _ | apply ba | apply bp | apply bd | apply bn)⟩

end Go.Proofs.Ythcplebmffbmpaa
