/- BytesBack is proved: what Num writes is read back, whatever stands behind; what Read reads is written by Num as just these bytes: the call returns true for any number and any bytes. No condition. -/
import Derived.Test.YthlklooaljaedaaBy9
import Derived.Test.YthlklooaljaedaaLaw
import Derived.Deep.DeepCutAuto
namespace Go.Proofs.Ythlklooaljaedaa
open Go.RowKit Go.ChangeShapes Go.WideShapes Go.ChangeAt
set_option linter.unusedSimpArgs false
set_option linter.unusedVariables false
attribute [local go_sem] plus_size plus_drew dn_set dn_alloc dn_plus plus_dn cell_plus frozen_plus set_plus cell_alloc frozen_alloc set_alloc

theorem Byt.app {a b : List Int} (h : Byt a) (h2 : Byt b) : Byt (a ++ b) := by
  intro x hx
  rcases List.mem_append.1 hx with h3 | h3
  · exact h x h3
  · exact h2 x h3
theorem num_yes {x : Int} (h : canB x = true) : numL x = (bytesOf x, 0) := by rw [numL, if_pos h]
theorem num_no {x : Int} (h : canB x = false) : numL x = ([], 2) := by rw [numL, if_neg (by rw [h]; decide)]

set_option maxRecDepth 100000 in
set_option maxHeartbeats 4000000 in
theorem bytesBack_walk (x : Int) (ao : Option Addr) (n cap : Nat) (l : List Int) (w : World) (hn : n ≤ 9223372036854775807) (hcap : n ≤ cap) (hl : Lay fU w ao n l) (hb : Byt l) :
    Calls Try.prog 6 #[.int .i64 x, .slice ao n cap] w fun e w' => e = .returned (.bool true) ∧ Below w.heap.size w w' := by
  have hlen := hl.len
  by_cases hbig : 20000 < n
  · have ib : (20000 : Int) < (n : Int) := by omega
    go_enter Try.func6, Try.ntmps6
    go_wp2_with (go_at_call 11; refine (alive8_calls _).mono ?_; rintro e w0 ⟨rfl, hw0⟩)
    go_ret
    exact ⟨rfl, below_ex (by with_reducible repeat (first | exact ex_refl _ | exact ex_more8 | apply ex_alloc | apply ex_plus | apply ex_drew | apply ex_drewN | (apply ex_on; assumption)))⟩
  have ib : ¬ (20000 : Int) < (n : Int) := by omega
  cases hc : canB x
  · have hnum := num_no hc
    by_cases he : (readL l).2.2 = 0
    rotate_left
    · have hr := read_err l he
      clear he
      go_enter Try.func6, Try.ntmps6
      go_wp2_with (first | (go_at_call 11; refine (alive8_calls _).mono ?_; rintro e w0 ⟨rfl, hw0⟩) | (go_at_call 10; refine (num_calls x _).mono ?_; rw [hnum]; rintro e w1 ⟨a2, c2, rfl, hw1, ox⟩) | (go_at_call 14; refine (read_calls _ _ _ l _ (hl.ex (by with_reducible repeat (first | exact ex_refl _ | exact ex_more8 | apply ex_alloc | apply ex_plus | apply ex_drew | apply ex_drewN | (apply ex_on; assumption)))) hb (by omega)).mono ?_; rintro e w' ⟨rfl, ew⟩; obtain rfl := ew.symm; rw [hr]))
      go_ret
      exact ⟨rfl, below_ex (by with_reducible repeat (first | exact ex_refl _ | exact ex_more8 | apply ex_alloc | apply ex_plus | apply ex_drew | apply ex_drewN | (apply ex_on; assumption)))⟩
    obtain ⟨c1, c2, c3, c4, c5⟩ := bytes_cut hb he
    obtain ⟨a, ha⟩ : ∃ a, (readL l).1 = a := ⟨_, rfl⟩
    obtain ⟨q, hq⟩ : ∃ q : Nat, (readL l).2.1 = (q : Int) := ⟨(readL l).2.1.toNat, by omega⟩
    have hr : readL l = (a, (q : Int), 0) := by rw [← ha, ← hq, ← he]
    have hqn : q ≤ n := by omega
    rw [ha, hq, Int.toNat_natCast] at c5
    rw [ha] at c1
    have hnb : numL a = (l.take q, 0) := by rw [num_yes c1, c5]
    have htl : (l.take q).length = q := by rw [List.length_take]; omega
    clear he c2 c3 c4 ha hq c5 c1
    have iq : (q : Int) ≤ (n : Int) := by omega
    have hqc : q ≤ cap := by omega
    go_enter Try.func6, Try.ntmps6
    go_upto_region 13 with (first | (go_at_call 11; refine (alive8_calls _).mono ?_; rintro e w0 ⟨rfl, hw0⟩) | (go_at_call 10; refine (num_calls x _).mono ?_; rw [hnum]; rintro e w1 ⟨a2, c2, rfl, hw1, ox⟩) | (go_at_call 10; refine (num_calls a _).mono ?_; rw [hnb, htl]; rintro e w3 ⟨a4, c4, rfl, hw3, oz⟩) | (go_at_call 14; refine (read_calls _ _ _ l _ (hl.ex (by with_reducible repeat (first | exact ex_refl _ | exact ex_more8 | apply ex_alloc | apply ex_plus | apply ex_drew | apply ex_drewN | (apply ex_on; assumption)))) hb (by omega)).mono ?_; rintro e w' ⟨rfl, ew⟩; obtain rfl := ew.symm; rw [hr]))
    have k1 := fun y => run_conv_lay (P := Try.prog) (w := plus w3 y) (src := 22) (dst := 9) (cap := c4) Try.underlying22 Try.underlying5 Try.underlying9 (oz.lay.ex ⟨y, rfl⟩)
    have k2 := fun y => run_conv_lay (P := Try.prog) (w := plus w3 y) (src := 22) (dst := 9) (cap := cap) Try.underlying22 Try.underlying5 Try.underlying9 ((lay_take8 hl hqn).ex (by with_reducible repeat (first | exact ex_refl _ | exact ex_more8 | apply ex_alloc | apply ex_plus | apply ex_drew | apply ex_drewN | (apply ex_on; assumption))))
    refine region_plus (by kernel_rfl) (by kernel_rfl) ?_
    (repeat (go_big_quiet_step (fail)))
    refine wpQuiet_nil ?_
    rintro _ ⟨x2, rfl⟩
    go_wp2
    go_ret
    exact ⟨rfl, below_ex (by with_reducible repeat (first | exact ex_refl _ | exact ex_more8 | apply ex_alloc | apply ex_plus | apply ex_drew | apply ex_drewN | (apply ex_on; assumption)))⟩
  · have hnum := num_yes hc
    have hbl := bytesOf_len hc
    have hbp := bytesOf_pos x
    have p1 : ¬ ((bytesOf x).length : Int) < 1 := by omega
    have p6 : ¬ (6 : Int) < ((bytesOf x).length : Int) := by omega
    have hrx := read_bytes hc l
    have hby : Byt (bytesOf x ++ l) := (bytesOf_byt x).app hb
    by_cases he : (readL l).2.2 = 0
    rotate_left
    · have hr := read_err l he
      clear he
      go_enter Try.func6, Try.ntmps6
      go_upto_region 9 with (first | (go_at_call 11; refine (alive8_calls _).mono ?_; rintro e w0 ⟨rfl, hw0⟩) | (go_at_call 10; refine (num_calls x _).mono ?_; rw [hnum]; rintro e w1 ⟨a2, c2, rfl, hw1, ox⟩) | (at_builtin; refine wpList_append_far (T := w0) (l2 := l) rfl _ _ rfl kinU fU_c fU_1 rfl hw1 ox rfl (hl.ex (by with_reducible repeat (first | exact ex_refl _ | exact ex_more8 | apply ex_alloc | apply ex_plus | apply ex_drew | apply ex_drewN | (apply ex_on; assumption)))) (by omega) (by decide) ?_; intro a3 c3 y3 oo) | (go_at_call 14; refine (read_calls _ _ _ (bytesOf x ++ l) _ (oo.lay) hby (by omega)).mono ?_; rintro e w' ⟨rfl, ew⟩; obtain rfl := ew.symm; rw [hrx]))
      go_wp2_with (go_at_call 14; refine (read_calls _ _ _ l _ (hl.ex (by with_reducible repeat (first | exact ex_refl _ | exact ex_more8 | apply ex_alloc | apply ex_plus | apply ex_drew | apply ex_drewN | (apply ex_on; assumption)))) hb (by omega)).mono ?_; rintro e w' ⟨rfl, ew⟩; obtain rfl := ew.symm; rw [hr])
      go_ret
      exact ⟨rfl, below_ex (by with_reducible repeat (first | exact ex_refl _ | exact ex_more8 | apply ex_alloc | apply ex_plus | apply ex_drew | apply ex_drewN | (apply ex_on; assumption)))⟩
    obtain ⟨c1, c2, c3, c4, c5⟩ := bytes_cut hb he
    obtain ⟨a, ha⟩ : ∃ a, (readL l).1 = a := ⟨_, rfl⟩
    obtain ⟨q, hq⟩ : ∃ q : Nat, (readL l).2.1 = (q : Int) := ⟨(readL l).2.1.toNat, by omega⟩
    have hr : readL l = (a, (q : Int), 0) := by rw [← ha, ← hq, ← he]
    have hqn : q ≤ n := by omega
    rw [ha, hq, Int.toNat_natCast] at c5
    rw [ha] at c1
    have hnb : numL a = (l.take q, 0) := by rw [num_yes c1, c5]
    have htl : (l.take q).length = q := by rw [List.length_take]; omega
    clear he c2 c3 c4 ha hq c5 c1
    have iq : (q : Int) ≤ (n : Int) := by omega
    have hqc : q ≤ cap := by omega
    go_enter Try.func6, Try.ntmps6
    go_upto_region 9 with (first | (go_at_call 11; refine (alive8_calls _).mono ?_; rintro e w0 ⟨rfl, hw0⟩) | (go_at_call 10; refine (num_calls x _).mono ?_; rw [hnum]; rintro e w1 ⟨a2, c2, rfl, hw1, ox⟩) | (at_builtin; refine wpList_append_far (T := w0) (l2 := l) rfl _ _ rfl kinU fU_c fU_1 rfl hw1 ox rfl (hl.ex (by with_reducible repeat (first | exact ex_refl _ | exact ex_more8 | apply ex_alloc | apply ex_plus | apply ex_drew | apply ex_drewN | (apply ex_on; assumption)))) (by omega) (by decide) ?_; intro a3 c3 y3 oo) | (go_at_call 14; refine (read_calls _ _ _ (bytesOf x ++ l) _ (oo.lay) hby (by omega)).mono ?_; rintro e w' ⟨rfl, ew⟩; obtain rfl := ew.symm; rw [hrx]))
    go_upto_region 13 with (first | (go_at_call 10; refine (num_calls a _).mono ?_; rw [hnb, htl]; rintro e w3 ⟨a4, c4, rfl, hw3, oz⟩) | (go_at_call 14; refine (read_calls _ _ _ l _ (hl.ex (by with_reducible repeat (first | exact ex_refl _ | exact ex_more8 | apply ex_alloc | apply ex_plus | apply ex_drew | apply ex_drewN | (apply ex_on; assumption)))) hb (by omega)).mono ?_; rintro e w' ⟨rfl, ew⟩; obtain rfl := ew.symm; rw [hr]))
    have k1 := fun y => run_conv_lay (P := Try.prog) (w := plus w3 y) (src := 22) (dst := 9) (cap := c4) Try.underlying22 Try.underlying5 Try.underlying9 (oz.lay.ex ⟨y, rfl⟩)
    have k2 := fun y => run_conv_lay (P := Try.prog) (w := plus w3 y) (src := 22) (dst := 9) (cap := cap) Try.underlying22 Try.underlying5 Try.underlying9 ((lay_take8 hl hqn).ex (by with_reducible repeat (first | exact ex_refl _ | exact ex_more8 | apply ex_alloc | apply ex_plus | apply ex_drew | apply ex_drewN | (apply ex_on; assumption))))
    refine region_plus (by kernel_rfl) (by kernel_rfl) ?_
    (repeat (go_big_quiet_step (fail)))
    refine wpQuiet_nil ?_
    rintro _ ⟨x2, rfl⟩
    go_wp2
    go_ret
    exact ⟨rfl, below_ex (by with_reducible repeat (first | exact ex_refl _ | exact ex_more8 | apply ex_alloc | apply ex_plus | apply ex_drew | apply ex_drewN | (apply ex_on; assumption)))⟩

set_option maxRecDepth 100000 in
theorem bytesBack_lifted (os : Os) (started : os.Started) (H : Type) (enc : TypeId × Value → H) :
    ReturnsInHanded {} Try.checked os 6 .any (Rows.bytesBackSpec.pre6 enc Try.prog Try.f6 Rows.bytesBackRow.domain false) (Rows.bytesBackSpec.post enc Try.prog Try.f6 false true false false) := by
  refine returnsInHanded_of_change (C := Try.checked) own started (by kernel_rfl) Try.func6
    (ChangeSpec.witness6 (enc := enc) (C := Try.checked) false ⟨#[], #[.int .i64 0, .slice none 0 0], []⟩ 8 (by kernel_rfl) (by kernel_rfl) (by kernel_rfl) (by kernel_rfl)) ?_
  intro W base args ds gs before hval0 hW hcnd _
  have hval : ∀ (j : Nat) t v, Try.f6.params[j]? = some t → args[j]? = some v → Value.okWide Try.prog W .any base t v := hval0
  have hW' := hW
  obtain ⟨p, q, hA0, hV, rfl, hfz, hnd⟩ := hW
  have hA : DataW.TrodAll enc Try.prog W 0 (fun _ => true) true Try.f6.params.toList args.toList ds p := hA0
  rw [Try.params6] at hA hval
  obtain ⟨v0, vs0, d0, ds0, p0, q0, hargs, rfl, rfl, h0, r0⟩ := trodAll_cons hA
  obtain ⟨v1, vs1, d1, ds1, p1, q1, rfl, rfl, rfl, h1, r1⟩ := trodAll_cons r0
  obtain ⟨rfl, rfl, rfl⟩ := trodAll_nil r1
  obtain rfl : args = #[v0, v1] := by cases args; simp_all
  obtain ⟨a0, rfl, _, _, w0⟩ := open_int Try.underlying3 (hval 0 3 v0 rfl rfl) h0
  have b0 := bounds_i64 w0
  obtain ⟨fu1, x1, hx1⟩ := slice_cell Try.underlying22 (hval 1 22 v1 rfl rfl) h1
  obtain ⟨ao1, n1, cap1, rfl, hn1, hz1, ho1⟩ := open_slc (c := 1) Try.underlying22 (by kernel_rfl) (by decide) hx1
  obtain ⟨l1, hl1, hb1⟩ := lay_bytes Try.underlying5 ho1
  refine (bytesBack_walk a0 ao1 n1 cap1 l1  W hn1 hz1 hl1 hb1).mono fun e W' ⟨he, hb⟩ => ?_
  exact ⟨_, he, law_post laidOut Try.underlying4 rfl (by kernel_rfl) (by kernel_rfl) (fun ds h => match ds, h with | [_, _], _ => rfl) hW' hb⟩

theorem bytesBack_holds : Rows.BytesBackSaid :=
  OpenClaim.holds_of_wide 6 Try.f6 rfl rfl rfl rfl rfl rfl rfl ⟨rfl, rfl, rfl, rfl, rfl⟩ rfl rfl rfl rfl rfl (by kernel_rfl) Try.func6 (by kernel_rfl)
    (of_decide_eq_true (by kernel_rfl)) (by unfold Func.isWrapper; first | (rw [if_pos (by decide +kernel)]; kernel_rfl) | (rw [if_neg (by decide +kernel)]; exact ⟨rfl, rfl⟩))
    (fun os started H enc _ => bytesBack_lifted os started H enc)
#print axioms bytesBack_holds
end Go.Proofs.Ythlklooaljaedaa
