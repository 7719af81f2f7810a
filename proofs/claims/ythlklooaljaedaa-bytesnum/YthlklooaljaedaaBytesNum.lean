/- BytesNum is proved: Num, and Read, give just the document's bytes, number and error; what is read stays as it was: the call returns true for any number and any bytes. No condition. -/
import Derived.Test.YthlklooaljaedaaBy7
import Derived.Test.YthlklooaljaedaaLaw
import Derived.Test.YthlklooaljaedaaMeshMath2
namespace Go.Proofs.Ythlklooaljaedaa
open Go.RowKit Go.ChangeShapes Go.WideShapes Go.ChangeAt
set_option linter.unusedSimpArgs false
set_option linter.unusedVariables false
attribute [local go_sem] plus_size plus_drew dn_set dn_alloc dn_plus plus_dn cell_plus frozen_plus set_plus cell_alloc frozen_alloc set_alloc

set_option maxRecDepth 100000 in
set_option maxHeartbeats 4000000 in
theorem bytesNum_walk (x : Int) (ao : Option Addr) (n cap : Nat) (l : List Int) (w : World) (hn : n ≤ 9223372036854775807) (hcap : n ≤ cap) (hl : Lay fU w ao n l) (hb : Byt l) :
    Calls Try.prog 4 #[.int .i64 x, .slice ao n cap] w fun e w' => e = .returned (.bool true) ∧ Below w.heap.size w w' := by
  have hlen := hl.len
  by_cases hbig : 20000 < n
  · have ib : (20000 : Int) < (n : Int) := by omega
    go_enter Try.func4, Try.ntmps4
    go_wp2
    go_ret
    exact ⟨rfl, by with_reducible repeat (first | exact Below.refl _ _ | apply ba | apply bp | apply bd | apply bn)⟩
  have ib : ¬ (20000 : Int) < (n : Int) := by omega
  go_enter Try.func4, Try.ntmps4
  go_wp2_with (first | (at_builtin; refine wpList_append_far (T := w) (l := []) rfl _ _ rfl kinU fU_c fU_1 rfl (by with_reducible repeat (first | exact ex_refl _ | exact ex_more8 | apply ex_alloc | apply ex_plus | apply ex_drew | apply ex_drewN)) own_nil rfl hl (by omega) (by decide) ?_; intro a1 c1 y1 oo; rw [Nat.zero_add, List.nil_append] at oo; have o1 := oo.lay) | (go_at_call 10; refine (num_calls _ _).mono ?_; rintro e w1 ⟨a2, c2, rfl, hw1, ox⟩) | (go_at_call 13; refine (rnum_calls _ _).mono ?_; rintro e w2 ⟨a3, c3, rfl, hw2, oy⟩) | (go_at_call 14; refine (read_calls _ _ _ l _ (o1.ex (by with_reducible repeat (first | exact ex_refl _ | exact ex_more8 | apply ex_alloc | apply ex_plus | apply ex_drew | apply ex_drewN | (apply ex_on; assumption)))) hb (by omega)).mono ?_; rintro e w' ⟨rfl, ew⟩; obtain rfl := ew.symm) | (go_at_call 15; refine (rread_calls _ _ _ l _ (hl.ex (by with_reducible repeat (first | exact ex_refl _ | exact ex_more8 | apply ex_alloc | apply ex_plus | apply ex_drew | apply ex_drewN | (apply ex_on; assumption)))) hb (by omega)).mono ?_; rintro e w' ⟨rfl, ew⟩; obtain rfl := ew.symm; have k1 := run_conv_lay (P := Try.prog) (w := w2) (src := 22) (dst := 9) (cap := c2) Try.underlying22 Try.underlying5 Try.underlying9 ((ox.lay.ex hw2)); have k2 := run_conv_lay (P := Try.prog) (w := w2) (src := 22) (dst := 9) (cap := c3) Try.underlying22 Try.underlying5 Try.underlying9 (oy.lay); have k3 := run_conv_lay (P := Try.prog) (w := w2) (src := 22) (dst := 9) (cap := c1) Try.underlying22 Try.underlying5 Try.underlying9 ((o1.ex (by with_reducible repeat (first | exact ex_refl _ | exact ex_more8 | apply ex_alloc | apply ex_plus | apply ex_drew | apply ex_drewN | (apply ex_on; assumption))))); have k4 := run_conv_lay (P := Try.prog) (w := w2) (src := 22) (dst := 9) (cap := cap) Try.underlying22 Try.underlying5 Try.underlying9 ((hl.ex (by with_reducible repeat (first | exact ex_refl _ | exact ex_more8 | apply ex_alloc | apply ex_plus | apply ex_drew | apply ex_drewN | (apply ex_on; assumption)))))))
  go_ret
  exact ⟨rfl, below_ex (by with_reducible repeat (first | exact ex_refl _ | exact ex_more8 | apply ex_alloc | apply ex_plus | apply ex_drew | apply ex_drewN | (apply ex_on; assumption)))⟩

set_option maxRecDepth 100000 in
theorem bytesNum_lifted (os : Os) (started : os.Started) (H : Type) (enc : TypeId × Value → H) :
    ReturnsInHanded {} Try.checked os 4 .any (Rows.bytesNumSpec.pre6 enc Try.prog Try.f4 Rows.bytesNumRow.domain false) (Rows.bytesNumSpec.post enc Try.prog Try.f4 false true false false) := by
  refine returnsInHanded_of_change (C := Try.checked) own started (by kernel_rfl) Try.func4
    (ChangeSpec.witness6 (enc := enc) (C := Try.checked) false ⟨#[], #[.int .i64 0, .slice none 0 0], []⟩ 8 (by kernel_rfl) (by kernel_rfl) (by kernel_rfl) (by kernel_rfl)) ?_
  intro W base args ds gs before hval0 hW hcnd _
  have hval : ∀ (j : Nat) t v, Try.f4.params[j]? = some t → args[j]? = some v → Value.okWide Try.prog W .any base t v := hval0
  have hW' := hW
  obtain ⟨p, q, hA0, hV, rfl, hfz, hnd⟩ := hW
  have hA : DataW.TrodAll enc Try.prog W 0 (fun _ => true) true Try.f4.params.toList args.toList ds p := hA0
  rw [Try.params4] at hA hval
  obtain ⟨v0, vs0, d0, ds0, p0, q0, hargs, rfl, rfl, h0, r0⟩ := trodAll_cons hA
  obtain ⟨v1, vs1, d1, ds1, p1, q1, rfl, rfl, rfl, h1, r1⟩ := trodAll_cons r0
  obtain ⟨rfl, rfl, rfl⟩ := trodAll_nil r1
  obtain rfl : args = #[v0, v1] := by cases args; simp_all
  obtain ⟨a0, rfl, _, _, w0⟩ := open_int Try.underlying3 (hval 0 3 v0 rfl rfl) h0
  have b0 := bounds_i64 w0
  obtain ⟨fu1, x1, hx1⟩ := slice_cell Try.underlying22 (hval 1 22 v1 rfl rfl) h1
  obtain ⟨ao1, n1, cap1, rfl, hn1, hz1, ho1⟩ := open_slc (c := 1) Try.underlying22 (by kernel_rfl) (by decide) hx1
  obtain ⟨l1, hl1, hb1⟩ := lay_bytes Try.underlying5 ho1
  refine (bytesNum_walk a0 ao1 n1 cap1 l1  W hn1 hz1 hl1 hb1).mono fun e W' ⟨he, hb⟩ => ?_
  exact ⟨_, he, law_post laidOut Try.underlying4 rfl (by kernel_rfl) (by kernel_rfl) (fun ds h => match ds, h with | [_, _], _ => rfl) hW' hb⟩

theorem bytesNum_holds : Rows.BytesNumSaid :=
  OpenClaim.holds_of_wide 4 Try.f4 rfl rfl rfl rfl rfl rfl rfl ⟨rfl, rfl, rfl, rfl, rfl⟩ rfl rfl rfl rfl rfl (by kernel_rfl) Try.func4 (by kernel_rfl)
    (of_decide_eq_true (by kernel_rfl)) (by unfold Func.isWrapper; first | (rw [if_pos (by decide +kernel)]; kernel_rfl) | (rw [if_neg (by decide +kernel)]; exact ⟨rfl, rfl⟩))
    (fun os started H enc _ => bytesNum_lifted os started H enc)
#print axioms bytesNum_holds
end Go.Proofs.Ythlklooaljaedaa
