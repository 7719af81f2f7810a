/- For every list of styles (of more than 1,000 nothing is said): states.Along answers as the document says (dioramaref07.Along). -/
import Derived.Test.YthcplebmffbmpaaRows
import Derived.Test.YthcplebmffbmpaaLaw
import Derived.Test.YthcplebmffbmpaaSt8
import Derived.Test.YthcplebmffbmpaaSt9
namespace Go.Proofs.Ythcplebmffbmpaa
open Go.RowKit Go.ChangeShapes Go.WideShapes Go.ChangeAt
set_option linter.unusedSimpArgs false
set_option linter.unusedVariables false
attribute [local go_sem] plus_size plus_drew dn_set dn_alloc dn_plus plus_dn cell_plus frozen_plus set_plus cell_alloc frozen_alloc set_alloc

attribute [local go_sem] eq4_refl eq5_refl

attribute [local go_sem] col_22

attribute [local go_sem] col_23

attribute [local go_sem] col9_22

attribute [local go_sem] col9_23

attribute [local go_sem] col8_22

attribute [local go_sem] col8_23

attribute [local go_sem] kep_37

attribute [local go_sem] kep9_37

attribute [local go_sem] kep8_37

attribute [local go_sem] larr_29

attribute [local go_sem] larr_53

set_option maxRecDepth 100000 in
set_option maxHeartbeats 8000000 in
theorem statesAlong_walk (ao : Option Addr) (n cap : Nat) (l : List Sy) (w : World) (hn : n ≤ 9223372036854775807) (hl : Lay fSy w ao n l) (hB : ∀ k, k < n → SyB (nth sy0 l k)) :
    Calls Try.prog 5 #[.slice ao n cap] w fun e w' => e = .returned (.bool true) ∧ Below w.heap.size w w' := by
  by_cases hm : 1000 < n
  · have im : (1000 : Int) < (n : Int) := by omega
    go_enter Try.func5, Try.ntmps5
    go_wp2
    go_ret
    exact ⟨rfl, by with_reducible repeat (first | exact Below.refl _ _ | apply ba | apply bp | apply bd | apply bn)⟩
  have im : ¬ (1000 : Int) < (n : Int) := by omega
  obtain ⟨M, hM⟩ : ∃ M, along l = M := ⟨_, rfl⟩
  obtain ⟨er, hE⟩ : ∃ er, alongErr l = er := ⟨_, rfl⟩
  go_enter Try.func5, Try.ntmps5
  go_wp2_with (first | (go_at_call 8; refine (plus_post (along_calls _ _ _ l _ hn (hl.ex (by with_reducible repeat (first | exact ex_refl _ | exact ex_more | apply ex_alloc | apply ex_plus | apply ex_drew | apply ex_drewN))) hB)).mono ?_; rintro e w' ⟨rfl, nx, rfl⟩; simp only [hM, hE]) | (go_at_call 20; refine (plus_post (ralong_calls _ _ _ l _ hn (hl.ex (by with_reducible repeat (first | exact ex_refl _ | exact ex_more | apply ex_alloc | apply ex_plus | apply ex_drew | apply ex_drewN))) hB)).mono ?_; rintro e w' ⟨rfl, nx, rfl⟩; simp only [hM, hE]))
  go_ret
  exact ⟨by simp, by with_reducible repeat (first | exact Below.refl _ _ | apply ba | apply bp | apply bd | apply bn)⟩

set_option maxRecDepth 100000 in
theorem statesAlong_lifted (os : Os) (started : os.Started) (H : Type) (enc : TypeId × Value → H) :
    ReturnsInHanded {} Try.checked os 5 .any (Rows.statesAlongSpec.pre6 enc Try.prog Try.f5 Rows.statesAlongRow.domain false) (Rows.statesAlongSpec.post enc Try.prog Try.f5 false true false false) := by
  refine returnsInHanded_of_change (C := Try.checked) own started (by kernel_rfl) Try.func5
    (ChangeSpec.witness6 (enc := enc) (C := Try.checked) false ⟨#[], #[.slice none 0 0], []⟩ 8 (by kernel_rfl) (by kernel_rfl) (by kernel_rfl) (by kernel_rfl)) ?_
  intro W base args ds gs before hval0 hW hcnd _
  have hval : ∀ (j : Nat) t v, Try.f5.params[j]? = some t → args[j]? = some v → Value.okWide Try.prog W .any base t v := hval0
  have hW' := hW
  obtain ⟨p, q, hA0, hV, rfl, hfz, hnd⟩ := hW
  have hA : DataW.TrodAll enc Try.prog W 0 (fun _ => true) true Try.f5.params.toList args.toList ds p := hA0
  rw [Try.params5] at hA hval
  obtain ⟨v0, vs0, d0, ds0, p0, q0, hargs, rfl, rfl, h0, r0⟩ := trodAll_cons hA
  obtain ⟨rfl, rfl, rfl⟩ := trodAll_nil r0
  obtain rfl : args = #[v0] := by cases args; simp_all
  obtain ⟨fu0, x0, hx0⟩ := slice_cell Try.underlying48 (hval 0 48 v0 rfl rfl) h0
  obtain ⟨ao0, n0, cap0, rfl, hn0, _, ho0⟩ := open_sl (c := 14) Try.underlying48 (by kernel_rfl) (by decide) hx0
  obtain ⟨l0, hl0, hk0⟩ := lay_styles (by kernel_rfl) ho0
  refine (statesAlong_walk ao0 n0 cap0 l0  W hn0 hl0 hk0).mono fun e W' ⟨he, hb⟩ => ?_
  exact ⟨_, he, law_post laidOut Try.underlying4 rfl (by kernel_rfl) (by kernel_rfl) (fun ds h => match ds, h with | [_], _ => rfl) hW' hb⟩

theorem statesAlong_holds : Rows.StatesAlongSaid :=
  OpenClaim.holds_of_wide 5 Try.f5 rfl rfl rfl rfl rfl rfl rfl ⟨rfl, rfl, rfl, rfl, rfl⟩ rfl rfl rfl rfl rfl (by kernel_rfl) Try.func5 (by kernel_rfl)
    (of_decide_eq_true (by kernel_rfl)) (by unfold Func.isWrapper; first | (rw [if_pos (by decide +kernel)]; kernel_rfl) | (rw [if_neg (by decide +kernel)]; exact ⟨rfl, rfl⟩))
    (fun os started H enc _ => statesAlong_lifted os started H enc)
#print axioms statesAlong_holds
end Go.Proofs.Ythcplebmffbmpaa
