/- BytesList is proved: List, and ReadList, give just the document's bytes, numbers and error; what is read stays as it was: the call returns true for any list, bytes and bound. No condition. -/
import Derived.Test.YthlklooaljaedaaBy8
import Derived.Test.YthlklooaljaedaaLaw
namespace Go.Proofs.Ythlklooaljaedaa
open Go.RowKit Go.ChangeShapes Go.WideShapes Go.ChangeAt
set_option linter.unusedSimpArgs false
set_option linter.unusedVariables false
attribute [local go_sem] plus_size plus_drew dn_set dn_alloc dn_plus plus_dn cell_plus frozen_plus set_plus cell_alloc frozen_alloc set_alloc

set_option maxRecDepth 100000 in
set_option maxHeartbeats 4000000 in
theorem bytesList_walk (ao : Option Addr) (n cap : Nat) (l : List Int) (bo : Option Addr) (bn bcap : Nat) (b : List Int) (most : Int) (w : World) (hn : n ≤ 9223372036854775807) (hl : Lay fI w ao n l) (hbn : bn ≤ 9223372036854775807) (hcap : bn ≤ bcap) (hbl : Lay fU w bo bn b) (hb : Byt b) :
    Calls Try.prog 5 #[.slice ao n cap, .slice bo bn bcap, .int .i64 most] w fun e w' => e = .returned (.bool true) ∧ Below w.heap.size w w' := by
  have hlen := hl.len
  by_cases hmid : 5000 < n ∧ n ≤ 65536
  · have i1 : (5000 : Int) < (n : Int) := by omega
    have i2 : (n : Int) ≤ 65536 := by omega
    go_enter Try.func5, Try.ntmps5
    go_wp2
    go_ret
    exact ⟨rfl, by with_reducible repeat (first | exact Below.refl _ _ | apply ba | apply bp | apply bd | apply bn)⟩
  by_cases hbig : 70000 < n
  · have i1 : (5000 : Int) < (n : Int) := by omega
    have i2 : ¬ (n : Int) ≤ 65536 := by omega
    have i3 : (70000 : Int) < (n : Int) := by omega
    go_enter Try.func5, Try.ntmps5
    go_wp2
    go_ret
    exact ⟨rfl, by with_reducible repeat (first | exact Below.refl _ _ | apply ba | apply bp | apply bd | apply bn)⟩
  have hn7 : n ≤ 70000 := by omega
  have i3 : ¬ (70000 : Int) < (n : Int) := by omega
  have hrl := reads_len b most
  by_cases hsm : 5000 < n
  · have i1 : (5000 : Int) < (n : Int) := by omega
    have i2 : ¬ (n : Int) ≤ 65536 := by omega
    clear hmid hbig hsm
    by_cases hbb : 20000 < bn
    · have i4 : (20000 : Int) < (bn : Int) := by omega
      go_enter Try.func5, Try.ntmps5
      go_wp2
      go_ret
      exact ⟨rfl, by with_reducible repeat (first | exact Below.refl _ _ | apply ba | apply bp | apply bd | apply bn)⟩
    have i4 : ¬ (20000 : Int) < (bn : Int) := by omega
    go_enter Try.func5, Try.ntmps5
    go_wp2_with (first | (at_builtin; refine wpList_append_far (T := w) (l := []) rfl _ _ rfl kinI8 fI_c fI_1 rfl (by with_reducible repeat (first | exact ex_refl _ | exact ex_more8 | apply ex_alloc | apply ex_plus | apply ex_drew | apply ex_drewN)) own_nil rfl hl (by omega) (by decide) ?_; intro a1 c1 y1 oo; rw [Nat.zero_add, List.nil_append] at oo; have o1 := oo.lay) | (go_at_call 8; refine (list_calls _ _ _ l _ (o1.ex (by with_reducible repeat (first | exact ex_refl _ | exact ex_more8 | apply ex_alloc | apply ex_plus | apply ex_drew | apply ex_drewN | (apply ex_on; assumption)))) (by omega)).mono ?_; rintro e w1 ⟨a2, c2, rfl, hw1, ox⟩) | (go_at_call 16; refine (rlist_calls _ _ _ l _ (hl.ex (by with_reducible repeat (first | exact ex_refl _ | exact ex_more8 | apply ex_alloc | apply ex_plus | apply ex_drew | apply ex_drewN | (apply ex_on; assumption)))) (by omega)).mono ?_; rintro e w2 ⟨a3, c3, rfl, hw2, oy⟩) | (go_at_call 9; refine (readList_calls _ _ _ b _ _ (hbl.ex (by with_reducible repeat (first | exact ex_refl _ | exact ex_more8 | apply ex_alloc | apply ex_plus | apply ex_drew | apply ex_drewN | (apply ex_on; assumption)))) hb (by omega) hcap).mono ?_; rintro e w3 ⟨a4, c4, rfl, hw3, oz⟩) | (go_at_call 17; refine (rreadList_calls _ _ _ b _ _ (hbl.ex (by with_reducible repeat (first | exact ex_refl _ | exact ex_more8 | apply ex_alloc | apply ex_plus | apply ex_drew | apply ex_drewN | (apply ex_on; assumption)))) hb (by omega) hcap).mono ?_; rintro e w4 ⟨a5, c5, rfl, hw4, ov⟩; have lz := oz.lay.ex hw4; have lv := ov.lay; have k1 := run_conv_lay (P := Try.prog) (w := w4) (src := 22) (dst := 9) (cap := c2) Try.underlying22 Try.underlying5 Try.underlying9 (((ox.lay.ex hw2).ex hw3).ex hw4); have k2 := run_conv_lay (P := Try.prog) (w := w4) (src := 22) (dst := 9) (cap := c3) Try.underlying22 Try.underlying5 Try.underlying9 ((oy.lay.ex hw3).ex hw4)) | (go_at_call 18; refine (numbers_any (by first | exact lz.ex (by with_reducible repeat (first | exact ex_refl _ | exact ex_more8 | apply ex_alloc | apply ex_plus | apply ex_drew | apply ex_drewN | (apply ex_on; assumption))) | exact o1.ex (by with_reducible repeat (first | exact ex_refl _ | exact ex_more8 | apply ex_alloc | apply ex_plus | apply ex_drew | apply ex_drewN | (apply ex_on; assumption)))) (by first | exact lv.ex (by with_reducible repeat (first | exact ex_refl _ | exact ex_more8 | apply ex_alloc | apply ex_plus | apply ex_drew | apply ex_drewN | (apply ex_on; assumption))) | exact hl.ex (by with_reducible repeat (first | exact ex_refl _ | exact ex_more8 | apply ex_alloc | apply ex_plus | apply ex_drew | apply ex_drewN | (apply ex_on; assumption)))) (by omega)).mono ?_; rintro e w5 ⟨rfl, y5, rfl⟩))
    go_ret
    exact ⟨rfl, below_ex (by with_reducible repeat (first | exact ex_refl _ | exact ex_more8 | apply ex_alloc | apply ex_plus | apply ex_drew | apply ex_drewN | (apply ex_on; assumption)))⟩
  · have i1 : ¬ (5000 : Int) < (n : Int) := by omega
    clear hmid hbig hsm
    by_cases hbb : 20000 < bn
    · have i4 : (20000 : Int) < (bn : Int) := by omega
      go_enter Try.func5, Try.ntmps5
      go_wp2
      go_ret
      exact ⟨rfl, by with_reducible repeat (first | exact Below.refl _ _ | apply ba | apply bp | apply bd | apply bn)⟩
    have i4 : ¬ (20000 : Int) < (bn : Int) := by omega
    go_enter Try.func5, Try.ntmps5
    go_wp2_with (first | (at_builtin; refine wpList_append_far (T := w) (l := []) rfl _ _ rfl kinI8 fI_c fI_1 rfl (by with_reducible repeat (first | exact ex_refl _ | exact ex_more8 | apply ex_alloc | apply ex_plus | apply ex_drew | apply ex_drewN)) own_nil rfl hl (by omega) (by decide) ?_; intro a1 c1 y1 oo; rw [Nat.zero_add, List.nil_append] at oo; have o1 := oo.lay) | (go_at_call 8; refine (list_calls _ _ _ l _ (o1.ex (by with_reducible repeat (first | exact ex_refl _ | exact ex_more8 | apply ex_alloc | apply ex_plus | apply ex_drew | apply ex_drewN | (apply ex_on; assumption)))) (by omega)).mono ?_; rintro e w1 ⟨a2, c2, rfl, hw1, ox⟩) | (go_at_call 16; refine (rlist_calls _ _ _ l _ (hl.ex (by with_reducible repeat (first | exact ex_refl _ | exact ex_more8 | apply ex_alloc | apply ex_plus | apply ex_drew | apply ex_drewN | (apply ex_on; assumption)))) (by omega)).mono ?_; rintro e w2 ⟨a3, c3, rfl, hw2, oy⟩) | (go_at_call 9; refine (readList_calls _ _ _ b _ _ (hbl.ex (by with_reducible repeat (first | exact ex_refl _ | exact ex_more8 | apply ex_alloc | apply ex_plus | apply ex_drew | apply ex_drewN | (apply ex_on; assumption)))) hb (by omega) hcap).mono ?_; rintro e w3 ⟨a4, c4, rfl, hw3, oz⟩) | (go_at_call 17; refine (rreadList_calls _ _ _ b _ _ (hbl.ex (by with_reducible repeat (first | exact ex_refl _ | exact ex_more8 | apply ex_alloc | apply ex_plus | apply ex_drew | apply ex_drewN | (apply ex_on; assumption)))) hb (by omega) hcap).mono ?_; rintro e w4 ⟨a5, c5, rfl, hw4, ov⟩; have lz := oz.lay.ex hw4; have lv := ov.lay; have k1 := run_conv_lay (P := Try.prog) (w := w4) (src := 22) (dst := 9) (cap := c2) Try.underlying22 Try.underlying5 Try.underlying9 (((ox.lay.ex hw2).ex hw3).ex hw4); have k2 := run_conv_lay (P := Try.prog) (w := w4) (src := 22) (dst := 9) (cap := c3) Try.underlying22 Try.underlying5 Try.underlying9 ((oy.lay.ex hw3).ex hw4)) | (go_at_call 18; refine (numbers_any (by first | exact lz.ex (by with_reducible repeat (first | exact ex_refl _ | exact ex_more8 | apply ex_alloc | apply ex_plus | apply ex_drew | apply ex_drewN | (apply ex_on; assumption))) | exact o1.ex (by with_reducible repeat (first | exact ex_refl _ | exact ex_more8 | apply ex_alloc | apply ex_plus | apply ex_drew | apply ex_drewN | (apply ex_on; assumption)))) (by first | exact lv.ex (by with_reducible repeat (first | exact ex_refl _ | exact ex_more8 | apply ex_alloc | apply ex_plus | apply ex_drew | apply ex_drewN | (apply ex_on; assumption))) | exact hl.ex (by with_reducible repeat (first | exact ex_refl _ | exact ex_more8 | apply ex_alloc | apply ex_plus | apply ex_drew | apply ex_drewN | (apply ex_on; assumption)))) (by omega)).mono ?_; rintro e w5 ⟨rfl, y5, rfl⟩))
    go_ret
    exact ⟨rfl, below_ex (by with_reducible repeat (first | exact ex_refl _ | exact ex_more8 | apply ex_alloc | apply ex_plus | apply ex_drew | apply ex_drewN | (apply ex_on; assumption)))⟩

set_option maxRecDepth 100000 in
theorem bytesList_lifted (os : Os) (started : os.Started) (H : Type) (enc : TypeId × Value → H) :
    ReturnsInHanded {} Try.checked os 5 .any (Rows.bytesListSpec.pre6 enc Try.prog Try.f5 Rows.bytesListRow.domain false) (Rows.bytesListSpec.post enc Try.prog Try.f5 false true false false) := by
  refine returnsInHanded_of_change (C := Try.checked) own started (by kernel_rfl) Try.func5
    (ChangeSpec.witness6 (enc := enc) (C := Try.checked) false ⟨#[], #[.slice none 0 0, .slice none 0 0, .int .i64 0], []⟩ 8 (by kernel_rfl) (by kernel_rfl) (by kernel_rfl) (by kernel_rfl)) ?_
  intro W base args ds gs before hval0 hW hcnd _
  have hval : ∀ (j : Nat) t v, Try.f5.params[j]? = some t → args[j]? = some v → Value.okWide Try.prog W .any base t v := hval0
  have hW' := hW
  obtain ⟨p, q, hA0, hV, rfl, hfz, hnd⟩ := hW
  have hA : DataW.TrodAll enc Try.prog W 0 (fun _ => true) true Try.f5.params.toList args.toList ds p := hA0
  rw [Try.params5] at hA hval
  obtain ⟨v0, vs0, d0, ds0, p0, q0, hargs, rfl, rfl, h0, r0⟩ := trodAll_cons hA
  obtain ⟨v1, vs1, d1, ds1, p1, q1, rfl, rfl, rfl, h1, r1⟩ := trodAll_cons r0
  obtain ⟨v2, vs2, d2, ds2, p2, q2, rfl, rfl, rfl, h2, r2⟩ := trodAll_cons r1
  obtain ⟨rfl, rfl, rfl⟩ := trodAll_nil r2
  obtain rfl : args = #[v0, v1, v2] := by cases args; simp_all
  obtain ⟨fu0, x0, hx0⟩ := slice_cell Try.underlying26 (hval 0 26 v0 rfl rfl) h0
  obtain ⟨ao0, n0, cap0, rfl, hn0, _, ho0⟩ := open_sl (c := 1) Try.underlying26 (by kernel_rfl) (by decide) hx0
  obtain ⟨l0, hl0⟩ := lay_ints (by kernel_rfl) ho0
  obtain ⟨fu1, x1, hx1⟩ := slice_cell Try.underlying22 (hval 1 22 v1 rfl rfl) h1
  obtain ⟨ao1, n1, cap1, rfl, hn1, hz1, ho1⟩ := open_slc (c := 1) Try.underlying22 (by kernel_rfl) (by decide) hx1
  obtain ⟨l1, hl1, hb1⟩ := lay_bytes Try.underlying5 ho1
  obtain ⟨a2, rfl, _, _, w2⟩ := open_int Try.underlying3 (hval 2 3 v2 rfl rfl) h2
  have b2 := bounds_i64 w2
  refine (bytesList_walk ao0 n0 cap0 l0 ao1 n1 cap1 l1 a2  W hn0 hl0 hn1 hz1 hl1 hb1).mono fun e W' ⟨he, hb⟩ => ?_
  exact ⟨_, he, law_post laidOut Try.underlying4 rfl (by kernel_rfl) (by kernel_rfl) (fun ds h => match ds, h with | [_, _, _], _ => rfl) hW' hb⟩

theorem bytesList_holds : Rows.BytesListSaid :=
  OpenClaim.holds_of_wide 5 Try.f5 rfl rfl rfl rfl rfl rfl rfl ⟨rfl, rfl, rfl, rfl, rfl⟩ rfl rfl rfl rfl rfl (by kernel_rfl) Try.func5 (by kernel_rfl)
    (of_decide_eq_true (by kernel_rfl)) (by unfold Func.isWrapper; first | (rw [if_pos (by decide +kernel)]; kernel_rfl) | (rw [if_neg (by decide +kernel)]; exact ⟨rfl, rfl⟩))
    (fun os started H enc _ => bytesList_lifted os started H enc)
#print axioms bytesList_holds
end Go.Proofs.Ythlklooaljaedaa
