/- NodesTell is proved: a node's children and parents, and who reaches whom, are the document's; the graph stays: the call returns true for any graph and handles. No condition. -/
import Derived.Test.YtmmflpjfgapaaaaNodesL
import Derived.Test.YtmmflpjfgapaaaaLaw
namespace Go.Proofs.Ytmmflpjfgapaaaa
open Go.RowKit Go.ChangeShapes Go.WideShapes Go.ChangeAt
set_option linter.unusedSimpArgs false
set_option linter.unusedVariables false
attribute [local go_sem] plus_size plus_drew dn_set dn_alloc dn_plus plus_dn cell_plus frozen_plus set_plus cell_alloc frozen_alloc set_alloc

theorem kidsL_le {gr : Gr} {h : Int × Int} {m : Nat} (hf : Few gr m) : (kidsL gr h).length ≤ m := by
  unfold kidsL
  split
  · exact hf.r _
  · simp
theorem parentsL_le {gr : Gr} {h : Int × Int} {m : Nat} (hf : Few gr m) : (parentsL gr h).length ≤ 16 * m := by
  unfold parentsL
  split
  · rename_i e
    have h1 := parentsTo_le (h := h) (gr_parts (ask_ok e).1).2.2.1 gr.ks.length (Nat.le_refl _)
    have := hf.k
    omega
  · simp
theorem sameH_self {w : World} {ao ao2 : Option Addr} {n cap n2 cap2 : Nat} {L : List (Int × Int)} (h1 : Lay f2 w ao n L) (h2 : Lay f2 w ao2 n2 L) (hn : L.length ≤ 10000) :
    Calls Try.prog 33 #[.slice ao n cap, .slice ao2 n2 cap2] w fun e w' => e = .returned (.bool true) ∧ Below w.heap.size w w' := by
  have := sameH_calls ao ao2 n n2 cap cap2 L L w h1 h2 (by rw [← h1.len]; exact hn) (by rw [← h2.len]; exact hn)
  rwa [show same2 L L = true from same_refl eq2_refl _] at this

set_option maxRecDepth 100000 in
set_option maxHeartbeats 16000000 in
theorem nodesTell_walk (ao : Option Addr) (n cap : Nat) (ko : Option Addr) (kn kcap : Nat) (hs : List RH) (gr : Gr) (s g i1 i2 : Int) (w : World) (hG : GrIn w ao n ko kn hs gr) :
    Calls Try.prog 5 #[.agg #[.slice ao n cap, .slice ko kn kcap], .agg #[.int .i64 s, .int .i64 g], .agg #[.int .i64 i1, .int .i64 i2]] w fun e w' => e = .returned (.bool true) ∧ Below w.heap.size w w' := by
  cases hg1 : greatB n kn hs
  rotate_left
  · go_enter Try.func5, Try.ntmps5
    go_wp2_with (go_at_call 16; refine (plus_post (great_any (hG.ex (by with_reducible repeat (first | exact ex_refl _ | exact ex_more | apply ex_alloc | apply ex_plus | apply ex_drew | apply ex_drewN))))).mono ?_; rintro e w' ⟨rfl, nx, rfl⟩; rw [hg1])
    go_ret
    exact ⟨rfl, by with_reducible repeat (first | exact Below.refl _ _ | apply ba | apply bp | apply bd | apply bn)⟩
  have hA := hG.few hg1
  have fA := great_few hG hg1
  have bK : (kidsL gr (s, g)).length ≤ 10000 := Nat.le_trans (kidsL_le fA) (by decide)
  have bP : (parentsL gr (s, g)).length ≤ 10000 := Nat.le_trans (parentsL_le fA) (by decide)
  have sL := sameG_refl gr
  go_enter Try.func5, Try.ntmps5
  go_upto_region 4 with (first | (go_at_call 16; refine (plus_post (great_any (hG.ex (by with_reducible repeat (first | exact ex_refl _ | exact ex_more | apply ex_alloc | apply ex_plus | apply ex_drew | apply ex_drewN))))).mono ?_; rintro e w' ⟨rfl, nx, rfl⟩; rw [hg1]) | (go_at_call 17; refine (gtwin_calls _ _ _ _ _ _ _ gr _ (hA.ex (by with_reducible repeat (first | exact ex_refl _ | exact ex_more | apply ex_alloc | apply ex_plus | apply ex_drew | apply ex_drewN)))).mono ?_; rintro e w1 ⟨a1, c1, k1, kc1, hs1, rfl, hw1, o1⟩; have q0 : w1.cell? ⟨w.heap.size, 0, none⟩ = some (.slice ao n cap) := cell_ex hw1 (by simp [go_sem, ↓IntWalk.iteOmega]); have q1 : w1.cell? ⟨w.heap.size, 1, none⟩ = some (.slice ko kn kcap) := cell_ex hw1 (by simp [go_sem, ↓IntWalk.iteOmega]); have q2 : w1.cell? ⟨w.heap.size + 1, 0, none⟩ = some (.int .i64 s) := cell_ex hw1 (by simp [go_sem, ↓IntWalk.iteOmega]); have q3 : w1.cell? ⟨w.heap.size + 1, 1, none⟩ = some (.int .i64 g) := cell_ex hw1 (by simp [go_sem, ↓IntWalk.iteOmega]); have q4 : w1.cell? ⟨w.heap.size + 1 + 1, 0, none⟩ = some (.int .i64 i1) := cell_ex hw1 (by simp [go_sem, ↓IntWalk.iteOmega]); have q5 : w1.cell? ⟨w.heap.size + 1 + 1, 1, none⟩ = some (.int .i64 i2) := cell_ex hw1 (by simp [go_sem, ↓IntWalk.iteOmega])))
  have hx : ∃ y, w1.alloc (.cells #[.slice a1 n c1, .slice k1 kn kc1] 27) = plus w y := (by with_reducible repeat (first | exact ex_refl _ | exact ex_more | apply ex_alloc | apply ex_plus | apply ex_drew | apply ex_drewN | (apply ex_on; assumption)))
  have hown := (o1.ex (ex_alloc (o := (.cells #[.slice a1 n c1, .slice k1 kn kc1] 27)) (ex_refl w1))).at hA.n1 hA.n2 (fun k _ => Nat.le_trans (fA.r k) (by decide))
  have hA1 := hA.ex hx
  have cO : (w1.alloc (.cells #[.slice a1 n c1, .slice k1 kn kc1] 27)).cell? ⟨w1.heap.size, 0, none⟩ = some (.slice a1 n c1) := by simp [go_sem]
  have cO' : (w1.alloc (.cells #[.slice a1 n c1, .slice k1 kn kc1] 27)).cell? ⟨w1.heap.size, 1, none⟩ = some (.slice k1 kn kc1) := by simp [go_sem]
  have p0 := cell_ex (w' := w1.alloc (.cells #[.slice a1 n c1, .slice k1 kn kc1] 27)) (ex_alloc (o := (.cells #[.slice a1 n c1, .slice k1 kn kc1] 27)) (ex_refl w1)) q0
  have p1 := cell_ex (w' := w1.alloc (.cells #[.slice a1 n c1, .slice k1 kn kc1] 27)) (ex_alloc (o := (.cells #[.slice a1 n c1, .slice k1 kn kc1] 27)) (ex_refl w1)) q1
  have p2 := cell_ex (w' := w1.alloc (.cells #[.slice a1 n c1, .slice k1 kn kc1] 27)) (ex_alloc (o := (.cells #[.slice a1 n c1, .slice k1 kn kc1] 27)) (ex_refl w1)) q2
  have p3 := cell_ex (w' := w1.alloc (.cells #[.slice a1 n c1, .slice k1 kn kc1] 27)) (ex_alloc (o := (.cells #[.slice a1 n c1, .slice k1 kn kc1] 27)) (ex_refl w1)) q3
  have p4 := cell_ex (w' := w1.alloc (.cells #[.slice a1 n c1, .slice k1 kn kc1] 27)) (ex_alloc (o := (.cells #[.slice a1 n c1, .slice k1 kn kc1] 27)) (ex_refl w1)) q4
  have p5 := cell_ex (w' := w1.alloc (.cells #[.slice a1 n c1, .slice k1 kn kc1] 27)) (ex_alloc (o := (.cells #[.slice a1 n c1, .slice k1 kn kc1] 27)) (ex_refl w1)) q5
  clear o1 q0 q1 q2 q3 q4 q5
  generalize w1.alloc (.cells #[.slice a1 n c1, .slice k1 kn kc1] 27) = T at *
  have lO := cell_lt cO
  have lA := cell_lt p0
  have lH := cell_lt p2
  have lI := cell_lt p4
  clear hA hG
  go_upto_region 11 with (first | (go_at_call 11; refine (nkids_calls _ _ _ _ _ _ _ gr _ _ _ (hown.ex (by with_reducible repeat (first | exact ex_refl _ | exact ex_more | apply ex_alloc | apply ex_plus | apply ex_drew | apply ex_drewN | (apply ex_on; assumption))))).mono ?_; rintro e w' ⟨Aa, An, Ac, rfl, ⟨y1, rfl⟩, oA⟩) | (go_at_call 28; refine (gkids_calls _ _ _ _ _ _ _ gr _ _ _ (hA1.ex (by with_reducible repeat (first | exact ex_refl _ | exact ex_more | apply ex_alloc | apply ex_plus | apply ex_drew | apply ex_drewN | (apply ex_on; assumption))))).mono ?_; rintro e w' ⟨Ba, Bn, Bc, rfl, ⟨y2, rfl⟩, oB⟩) | (go_at_call 29; refine (nparents_calls _ _ _ _ _ _ _ gr _ _ _ (hown.ex (by with_reducible repeat (first | exact ex_refl _ | exact ex_more | apply ex_alloc | apply ex_plus | apply ex_drew | apply ex_drewN | (apply ex_on; assumption))))).mono ?_; rintro e w' ⟨Ca, Cn, Cc, rfl, ⟨y3, rfl⟩, oC⟩) | (go_at_call 30; refine (gparents_calls _ _ _ _ _ _ _ gr _ _ _ (hA1.ex (by with_reducible repeat (first | exact ex_refl _ | exact ex_more | apply ex_alloc | apply ex_plus | apply ex_drew | apply ex_drewN | (apply ex_on; assumption))))).mono ?_; rintro e w' ⟨Da, Dn, Dc, rfl, ⟨y4, rfl⟩, oD⟩) | (go_at_call 31; refine (plus_post (nreaches_calls _ _ _ _ _ _ _ gr _ _ _ _ _ (hown.ex (by with_reducible repeat (first | exact ex_refl _ | exact ex_more | apply ex_alloc | apply ex_plus | apply ex_drew | apply ex_drewN | (apply ex_on; assumption)))))).mono ?_; rintro e w' ⟨rfl, nx, rfl⟩) | (go_at_call 32; refine (plus_post (greaches_calls _ _ _ _ _ _ _ gr _ _ _ _ _ (hA1.ex (by with_reducible repeat (first | exact ex_refl _ | exact ex_more | apply ex_alloc | apply ex_plus | apply ex_drew | apply ex_drewN | (apply ex_on; assumption)))))).mono ?_; rintro e w' ⟨rfl, nx, rfl⟩) | (go_at_call 33; refine (plus_post (sameH_self (by first | exact oA.lay.ex (by with_reducible repeat (first | exact ex_refl _ | exact ex_more | apply ex_alloc | apply ex_plus | apply ex_drew | apply ex_drewN | (apply ex_on; assumption))) | exact oC.lay.ex (by with_reducible repeat (first | exact ex_refl _ | exact ex_more | apply ex_alloc | apply ex_plus | apply ex_drew | apply ex_drewN | (apply ex_on; assumption)))) (by first | exact oB.ex (by with_reducible repeat (first | exact ex_refl _ | exact ex_more | apply ex_alloc | apply ex_plus | apply ex_drew | apply ex_drewN | (apply ex_on; assumption))) | exact oD.ex (by with_reducible repeat (first | exact ex_refl _ | exact ex_more | apply ex_alloc | apply ex_plus | apply ex_drew | apply ex_drewN | (apply ex_on; assumption)))) (by assumption))).mono ?_; rintro e w' ⟨rfl, nz, rfl⟩))
  refine name_world (fun w' => (∃ y, w' = plus T y) ∧ Sh T 29 2 w' Aa An) ⟨(by with_reducible repeat (first | exact ex_refl _ | exact ex_more | apply ex_alloc | apply ex_plus | apply ex_drew | apply ex_drewN | (apply ex_on; assumption))), (oA.ex (by with_reducible repeat (first | exact ex_refl _ | exact ex_more | apply ex_alloc | apply ex_plus | apply ex_drew | apply ex_drewN))).sh⟩ ?_
  rintro v0 ⟨hv, hsh⟩
  have hAn : An ≤ 10000 := by rw [← oA.1]; exact bK
  clear oA oB oC oD
  go_wp2
  go_loopw [21] (fun i_ wr => ∃ q : Nat, q ≤ An ∧ i_ = .int .i64 q ∧ (∃ y, wr = plus T y) ∧ Sh T 29 2 wr Aa An) (fun i_ _ => An - (intOf i_).toNat)
  case atStart => exact ⟨0, Nat.zero_le _, rfl, hv, hsh⟩
  case round =>
    clear hv hsh
    obtain ⟨q, hq, rfl, hv, hsh⟩ := hrel
    by_cases hql : q < An
    · have iq : (q : Int) < (An : Int) := by omega
      obtain ⟨gv, cur, rfl, hgv, hbv, hsz⟩ := hsh.resolve_left (by omega)
      have c0' := blk_cell (i := q * 2 + 1) hbv (by omega)
      have z0' := frozen_blk (i := q * 2 + 1) hbv
      go_wp2
      go_roundw
      case rel => exact ⟨q + 1, by omega, by go_num, ex_set_new hv hgv, hsh.sp (sp_set hgv hbv (.inr rfl))⟩
      case measure => simp [intOf]; omega
    have iq : ¬ (q : Int) < (An : Int) := by omega
    have cO5 := cell_ex hv cO
    have cO6 := cell_ex hv cO'
    have cA5 := cell_ex hv p0
    have cA6 := cell_ex hv p1
    have h1 := hown.ex hv
    have h2 := hA1.ex hv
    go_wp2_with (go_at_call 24; refine (plus_post (gsame_any (h1.ex (by with_reducible repeat (first | exact ex_refl _ | exact ex_more | apply ex_alloc | apply ex_plus | apply ex_drew | apply ex_drewN))) (h2.ex (by with_reducible repeat (first | exact ex_refl _ | exact ex_more | apply ex_alloc | apply ex_plus | apply ex_drew | apply ex_drewN))))).mono ?_; rintro e w' ⟨rfl, nz, rfl⟩; rw [sL])
    go_ret
    exact ⟨rfl, below_ex (by with_reducible repeat (first | exact ex_refl _ | exact ex_more | apply ex_alloc | apply ex_plus | apply ex_drew | apply ex_drewN | (apply ex_on; assumption)))⟩

set_option maxRecDepth 100000 in
theorem nodesTell_lifted (os : Os) (started : os.Started) (H : Type) (enc : TypeId × Value → H) :
    ReturnsInHanded {} Try.checked os 5 .any (Rows.nodesTellSpec.pre6 enc Try.prog Try.f5 Rows.nodesTellRow.domain false) (Rows.nodesTellSpec.post enc Try.prog Try.f5 false true false false) := by
  refine returnsInHanded_of_change_sized (C := Try.checked) own started (by kernel_rfl) Try.func5
    (ChangeSpec.witness6 (enc := enc) (C := Try.checked) false ⟨#[], #[.agg #[.slice none 0 0, .slice none 0 0], .agg #[.int .i64 0, .int .i64 0], .agg #[.int .i64 0, .int .i64 0]], []⟩ 8 (by kernel_rfl) (by kernel_rfl) (by kernel_rfl) (by kernel_rfl)) ?_
  intro W base args ds gs before hval0 hW hcnd hsz _
  have hval : ∀ (j : Nat) t v, Try.f5.params[j]? = some t → args[j]? = some v → Value.okWide Try.prog W .any base t v := hval0
  have hW' := hW
  obtain ⟨p, q, hA0, hV, rfl, hfz, hnd⟩ := hW
  have hA : DataW.TrodAll enc Try.prog W 0 (fun _ => true) true Try.f5.params.toList args.toList ds p := hA0
  rw [Try.params5] at hA hval
  obtain ⟨v0, vs0, d0, ds0, p0, q0, hargs, rfl, rfl, h0, r0⟩ := trodAll_cons hA
  obtain ⟨v1, vs1, d1, ds1, p1, q1, rfl, rfl, rfl, h1, r1⟩ := trodAll_cons r0
  obtain ⟨v2, vs2, d2, ds2, p2, q2, rfl, rfl, rfl, h2, r2⟩ := trodAll_cons r1
  obtain ⟨rfl, rfl, rfl⟩ := trodAll_nil r2
  obtain rfl : args = #[v0, v1, v2] := by cases args; simp_all
  obtain ⟨ao0, n0, cap0, ko0, kn0, kcap0, hs0, g0, rfl, hG0⟩ := open_graph Try.underlying27 (by kernel_rfl) (by kernel_rfl) Try.underlying24 (by kernel_rfl) Try.underlying22 (by kernel_rfl) Try.underlying67 (by kernel_rfl) Try.underlying3 Try.underlying4 Try.underlying25 (by kernel_rfl) Try.underlying36 (by kernel_rfl) (by kernel_rfl) (by kernel_rfl) (sm_of hsz (j := 0) (by kernel_rfl) rfl) (hval 0 27 v0 rfl rfl) h0
  obtain ⟨a1_0, a1_1, rfl, ca1_0, ca1_1⟩ := open_flat2 (k := 4) (t := 29) (by kernel_rfl) (by kernel_rfl) (by kernel_rfl) (hval 1 29 v1 rfl rfl) h1
  obtain ⟨a2_0, a2_1, rfl, ca2_0, ca2_1⟩ := open_flat2 (k := 4) (t := 29) (by kernel_rfl) (by kernel_rfl) (by kernel_rfl) (hval 2 29 v2 rfl rfl) h2
  refine (nodesTell_walk ao0 n0 cap0 ko0 kn0 kcap0 hs0 g0 a1_0 a1_1 a2_0 a2_1  W hG0).mono fun e W' ⟨he, hb⟩ => ?_
  exact ⟨_, he, law_post laidOut Try.underlying4 rfl (by kernel_rfl) (by kernel_rfl) (fun ds h => match ds, h with | [_, _, _], _ => rfl) hW' hb⟩

theorem nodesTell_holds : Rows.NodesTellSaid :=
  OpenClaim.holds_of_wide 5 Try.f5 rfl rfl rfl rfl rfl rfl rfl ⟨rfl, rfl, rfl, rfl, rfl⟩ rfl rfl rfl rfl rfl (by kernel_rfl) Try.func5 (by kernel_rfl)
    (of_decide_eq_true (by kernel_rfl)) (by unfold Func.isWrapper; first | (rw [if_pos (by decide +kernel)]; kernel_rfl) | (rw [if_neg (by decide +kernel)]; exact ⟨rfl, rfl⟩))
    (fun os started H enc _ => nodesTell_lifted os started H enc)
#print axioms nodesTell_holds
end Go.Proofs.Ytmmflpjfgapaaaa
