/- MeshPrim is proved: the triangles of a primitive, or the error, are the document's, and the primitive stays: the call returns true for any primitive. No condition. -/
import Derived.Test.YtkiahgkfgcjkgaaMesh4
import Derived.Test.YtkiahgkfgcjkgaaMesh7
import Derived.Test.YtkiahgkfgcjkgaaOpen2
import Derived.Test.YtkiahgkfgcjkgaaSwap
namespace Go.Proofs.Ytkiahgkfgcjkgaa
open Go.RowKit Go.ChangeShapes Go.WideShapes Go.ChangeAt
set_option linter.unusedSimpArgs false
set_option linter.unusedVariables false
attribute [local go_sem] plus_size plus_drew dn_set dn_alloc dn_plus plus_dn cell_plus frozen_plus set_plus cell_alloc frozen_alloc set_alloc

attribute [local go_sem] eqarr_34 nearr_34 larr_34

attribute [local go_sem] eqarr_50 nearr_50 larr_50

attribute [local go_sem] isnil_26

attribute [local go_sem] isnil_29

attribute [local go_sem] isnil_30

attribute [local go_sem] isnil_31

set_option maxRecDepth 100000 in
set_option maxHeartbeats 4000000 in
theorem meshPrim_walk (kind : Int) (ao : Option Addr) (n cap : Nat) (ix : List Int) (w : World) (h0 : 0 ≤ kind) (hK : kind ≤ 255) (hn : n ≤ 9223372036854775807) (hl : Lay fI w ao n ix) : Calls Try.prog 4 #[.agg #[.int .u8 kind, .slice ao n cap]] w fun e w' => e = .returned (.bool true) ∧ Below w.heap.size w w' := by
  have hlen := hl.len
  by_cases h2 : 1000 < n
  · have i2 : (1000 : Int) < (n : Int) := by omega
    go_enter Try.func4, Try.ntmps4
    go_wp2
    go_ret
    exact ⟨rfl, by with_reducible repeat (first | exact Below.refl _ _ | apply ba | apply bp | apply bd | apply bn)⟩
  have i2 : ¬ (1000 : Int) < (n : Int) := by omega
  have hle : (prList ⟨kind, ix⟩).length ≤ n := by
    by_cases he : prErr ⟨kind, ix⟩ = 0
    · rw [prList_good he, ← hlen]
      exact prTris_le _
    · rw [prList_bad he]
      exact Nat.zero_le _
  go_enter Try.func4, Try.ntmps4
  go_wp2_with (first | (at_builtin; refine wpList_append_lay (T := ((w.alloc (.cells #[.int .u8 kind, .slice ao n cap] 28))).alloc (.cells #[.int .u8 kind, .slice none 0 0] 28)) (l := []) rfl _ _ rfl kinI fI_c fI_1 rfl (by with_reducible repeat (first | exact ex_refl _ | exact ex_more | apply ex_alloc | apply ex_plus | apply ex_drew | apply ex_drewN)) own_nil rfl (hl.ex (by with_reducible repeat (first | exact ex_refl _ | exact ex_more | apply ex_alloc | apply ex_plus | apply ex_drew | apply ex_drewN))) (by omega) (by decide) ?_; intro ao' cap' y' hown'; rw [Nat.zero_add, List.nil_append] at hown'; have hix := (hown'.swap (T' := ((w.alloc (.cells #[.int .u8 kind, .slice ao n cap] 28))).alloc (.cells #[.int .u8 kind, .slice ao' n cap'] 28)) (by simp [go_sem])).lay) | (go_at_call 9; refine (mprim_calls _ _ _ _ ix _ h0 (hix.ex (by with_reducible repeat (first | exact ex_refl _ | exact ex_more | apply ex_alloc | apply ex_plus | apply ex_drew | apply ex_drewN | (apply ex_on; assumption)))) (by omega)).mono ?_; rintro e w1 ⟨ao1, m1, cap1, rfl, hw1, hl1⟩; have a0 : w1.cell? ⟨w.heap.size, 0, none⟩ = some (.int .u8 kind) := cell_ex hw1 (by simp [go_sem, ↓IntWalk.iteOmega]); have a1 : w1.cell? ⟨w.heap.size, 1, none⟩ = some (.slice ao n cap) := cell_ex hw1 (by simp [go_sem, ↓IntWalk.iteOmega]); have a2 : w1.cell? ⟨w.heap.size + 1, 0, none⟩ = some (.int .u8 kind) := cell_ex hw1 (by simp [go_sem, ↓IntWalk.iteOmega]); have a3 : w1.cell? ⟨w.heap.size + 1, 1, none⟩ = some (.slice ao' n cap') := cell_ex hw1 (by simp [go_sem, ↓IntWalk.iteOmega]); have hz1 := cell_lt a3) | (go_at_call 12; refine (rprim_calls _ _ _ _ ix _ h0 (hl.ex (by with_reducible repeat (first | exact ex_refl _ | exact ex_more | apply ex_alloc | apply ex_plus | apply ex_drew | apply ex_drewN | (apply ex_on; assumption)))) (by omega)).mono ?_; rintro e w2 ⟨ao2, m2, cap2, rfl, hw2, hl2⟩; have b1 : w2.cell? ⟨w.heap.size, 1, none⟩ = some (.slice ao n cap) := cell_ex hw2 a1; have b3 : w2.cell? ⟨w.heap.size + 1, 1, none⟩ = some (.slice ao' n cap') := cell_ex hw2 a3; have hz2 := cell_lt b3; have ll1 := hl1.len; have ll2 := hl2.len) | (go_at_call 13; refine (plus_post (sameTris_calls _ _ _ _ _ _ (prList ⟨kind, ix⟩) (prList ⟨kind, ix⟩) _ (hl1.ex (by with_reducible repeat (first | exact ex_refl _ | exact ex_more | apply ex_alloc | apply ex_plus | apply ex_drew | apply ex_drewN | (apply ex_on; assumption)))) (hl2.ex (by with_reducible repeat (first | exact ex_refl _ | exact ex_more | apply ex_alloc | apply ex_plus | apply ex_drew | apply ex_drewN | (apply ex_on; assumption)))) (by omega) (by omega))).mono ?_; rintro e w' ⟨rfl, nx, rfl⟩; rw [show sameV (prList ⟨kind, ix⟩) (prList ⟨kind, ix⟩) = true from same_refl eqV_refl _]) | (go_at_call 14; refine (plus_post (numbers_calls _ _ _ _ _ _ ix ix _ (hix.ex (by with_reducible repeat (first | exact ex_refl _ | exact ex_more | apply ex_alloc | apply ex_plus | apply ex_drew | apply ex_drewN | (apply ex_on; assumption)))) (hl.ex (by with_reducible repeat (first | exact ex_refl _ | exact ex_more | apply ex_alloc | apply ex_plus | apply ex_drew | apply ex_drewN | (apply ex_on; assumption)))) (by omega) (by omega))).mono ?_; rintro e w' ⟨rfl, nx, rfl⟩; rw [show sameI ix ix = true from same_refl eqI_refl _]))
  go_ret
  exact ⟨rfl, below_ex (by with_reducible repeat (first | exact ex_refl _ | exact ex_more | apply ex_alloc | apply ex_plus | apply ex_drew | apply ex_drewN | (apply ex_on; assumption)))⟩

set_option maxRecDepth 100000 in
theorem meshPrim_lifted (os : Os) (started : os.Started) (H : Type) (enc : TypeId × Value → H) :
    ReturnsInHanded {} Try.checked os 4 .any (Rows.meshPrimSpec.pre6 enc Try.prog Try.f4 Rows.meshPrimRow.domain false) (Rows.meshPrimSpec.post enc Try.prog Try.f4 false true false false) := by
  refine returnsInHanded_of_change (C := Try.checked) own started (by kernel_rfl) Try.func4
    (ChangeSpec.witness6 (enc := enc) (C := Try.checked) false ⟨#[], #[.agg #[.int .u8 0, .slice none 0 0]], []⟩ 8 (by kernel_rfl) (by kernel_rfl) (by kernel_rfl) (by kernel_rfl)) ?_
  intro W base args ds gs before hval0 hW hcnd _
  have hval : ∀ (j : Nat) t v, Try.f4.params[j]? = some t → args[j]? = some v → Value.okWide Try.prog W .any base t v := hval0
  have hW' := hW
  obtain ⟨p, q, hA0, hV, rfl, hfz, hnd⟩ := hW
  have hA : DataW.TrodAll enc Try.prog W 0 (fun _ => true) true Try.f4.params.toList args.toList ds p := hA0
  rw [Try.params4] at hA hval
  obtain ⟨v0, vs0, d0, ds0, p0, q0, hargs, rfl, rfl, h0, r0⟩ := trodAll_cons hA
  obtain ⟨rfl, rfl, rfl⟩ := trodAll_nil r0
  obtain rfl : args = #[v0] := by cases args; simp_all
  obtain ⟨k0, ao0, n0, cap0, l0, rfl, hk0, hK0, hn0, hl0⟩ := open_prim Try.underlying28 (by kernel_rfl) (by kernel_rfl) Try.underlying5 Try.underlying26 (by kernel_rfl) (by kernel_rfl) (hval 0 28 v0 rfl rfl) h0
  refine (meshPrim_walk k0 ao0 n0 cap0 l0  W hk0 hK0 hn0 hl0).mono fun e W' ⟨he, hb⟩ => ?_
  exact ⟨_, he, law_post laidOut Try.underlying4 rfl (by kernel_rfl) (by kernel_rfl) (fun ds h => match ds, h with | [_], _ => rfl) hW' hb⟩

theorem meshPrim_holds : Rows.MeshPrimSaid :=
  OpenClaim.holds_of_wide 4 Try.f4 rfl rfl rfl rfl rfl rfl rfl ⟨rfl, rfl, rfl, rfl, rfl⟩ rfl rfl rfl rfl rfl (by kernel_rfl) Try.func4 (by kernel_rfl)
    (of_decide_eq_true (by kernel_rfl)) (by unfold Func.isWrapper; first | (rw [if_pos (by decide +kernel)]; kernel_rfl) | (rw [if_neg (by decide +kernel)]; exact ⟨rfl, rfl⟩))
    (fun os started H enc _ => meshPrim_lifted os started H enc)
#print axioms meshPrim_holds
end Go.Proofs.Ytkiahgkfgcjkgaa
