/- NodesBack is proved: what is linked, and taken out at that place, is as it was: the call returns true for any graph, handles and place. No condition. -/
import Derived.Test.YtmmflpjfgapaaaaNodesA
import Derived.Test.YtmmflpjfgapaaaaLaw
namespace Go.Proofs.Ytmmflpjfgapaaaa
open Go.RowKit Go.ChangeShapes Go.WideShapes Go.ChangeAt
set_option linter.unusedSimpArgs false
set_option linter.unusedVariables false
attribute [local go_sem] plus_size plus_drew dn_set dn_alloc dn_plus plus_dn cell_plus frozen_plus set_plus cell_alloc frozen_alloc set_alloc

theorem back_kids {g : Gr} {p c : Int × Int} {k : Int} (h : linkErr g p c k = 0) : askErr (linkG g p c k) p p = 0 ∧ kidsL (linkG g p c k) p = put (rowAt g p) k.toNat c := by
  have hok := linkG_ok h
  obtain ⟨hg, hp, hc, k0, k1, h16, hr⟩ := link_parts h
  obtain ⟨h1, h2, h3, h4⟩ := gr_parts hg
  have hpl := held_lt hp
  have hrow : rowAt (linkG g p c k) p = put (rowAt g p) k.toNat c := by
    show nth [] (g.ks.set p.1.toNat _) p.1.toNat = _
    rw [nth_set' (by omega), if_pos rfl]
  have hp' : heldIn (linkG g p c k).sl p.1 p.2 = true := hp
  have ha : askErr (linkG g p c k) p p = 0 := by
    unfold askErr
    rw [if_pos hok, if_pos (show _ ∧ _ from ⟨hp', hp'⟩)]
  exact ⟨ha, by rw [kidsL, if_pos ha, hrow]⟩
theorem nsame_self {w : World} {ao ao2 ko ko2 : Option Addr} {n cap kn kcap n2 cap2 kn2 kcap2 : Nat} {hs hs2 : List RH} {a : Gr} (h1 : GrAt w ao n ko kn hs a) (h2 : GrAt w ao2 n2 ko2 kn2 hs2 a) : Calls Try.prog 26 #[.agg #[.slice ao n cap, .slice ko kn kcap], .agg #[.slice ao2 n2 cap2, .slice ko2 kn2 kcap2]] w fun e w' => e = .returned (.bool true) ∧ Below w.heap.size w w' := by
  have h := nsame_any (cap := cap) (kcap := kcap) (cap2 := cap2) (kcap2 := kcap2) h1 h2
  rwa [sameG_refl] at h
theorem nunlink_is {ao ko : Option Addr} {n cap kn kcap n' kn' : Nat} {hs : List RH} {gr r : Gr} {s g pos er : Int} {w : World} (hr : unlinkRes gr (s, g) pos = r) (he : unlinkErr gr (s, g) pos = er) (h1 : r.sl.length = n') (h2 : r.ks.length = kn') (hG : GrAt w ao n ko kn hs gr) :
    Calls Try.prog 13 #[.agg #[.slice ao n cap, .slice ko kn kcap], .agg #[.int .i64 s, .int .i64 g], .int .i64 pos] w fun e w' => ∃ ao' cap' ko' kcap' hs', e = .returned (.tuple #[.agg #[.slice ao' n' cap', .slice ko' kn' kcap'], .int .i64 er]) ∧ (∃ y, w' = plus w y) ∧ GrOwn w w' ao' n' cap' ko' kn' kcap' hs' r := by
  subst hr he h1 h2
  exact nunlink_calls ao n cap ko kn kcap hs gr s g pos w hG

set_option maxRecDepth 100000 in
set_option maxHeartbeats 2000000 in
theorem nodesBack_walk (ao : Option Addr) (n cap : Nat) (ko : Option Addr) (kn kcap : Nat) (hs : List RH) (gr : Gr) (s g i1 i2 pos : Int) (w : World) (hG : GrIn w ao n ko kn hs gr) :
    Calls Try.prog 7 #[.agg #[.slice ao n cap, .slice ko kn kcap], .agg #[.int .i64 s, .int .i64 g], .agg #[.int .i64 i1, .int .i64 i2], .int .i64 pos] w fun e w' => e = .returned (.bool true) ∧ Below w.heap.size w w' := by
  cases hg1 : greatB n kn hs
  rotate_left
  · go_enter Try.func7, Try.ntmps7
    go_wp2_with (first | (go_at_call 14; refine (plus_post (galive_calls _)).mono ?_; rintro e w' ⟨rfl, na, rfl⟩) | (go_at_call 16; refine (plus_post (great_any (hG.ex (by with_reducible repeat (first | exact ex_refl _ | exact ex_more | apply ex_alloc | apply ex_plus | apply ex_drew | apply ex_drewN))))).mono ?_; rintro e w' ⟨rfl, nb, rfl⟩; rw [hg1]))
    go_ret
    exact ⟨rfl, by with_reducible repeat (first | exact Below.refl _ _ | apply ba | apply bp | apply bd | apply bn)⟩
  have hA := hG.few hg1
  have fA := great_few hG hg1
  by_cases he : linkErr gr (s, g) (i1, i2) pos = 0
  rotate_left
  · have dE : (linkErr gr (s, g) (i1, i2) pos == 0) = false := by rw [beq_eq_false_iff_ne]; exact he
    have hZ : linkRes gr (s, g) (i1, i2) pos = zeroG := by rw [linkRes, if_neg he]
    go_enter Try.func7, Try.ntmps7
    go_wp2_with (first | (go_at_call 14; refine (plus_post (galive_calls _)).mono ?_; rintro e w' ⟨rfl, na, rfl⟩) | (go_at_call 16; refine (plus_post (great_any (hG.ex (by with_reducible repeat (first | exact ex_refl _ | exact ex_more | apply ex_alloc | apply ex_plus | apply ex_drew | apply ex_drewN))))).mono ?_; rintro e w' ⟨rfl, nb, rfl⟩; rw [hg1]) | (go_at_call 10; refine (nlink_is (er := linkErr gr (s, g) (i1, i2) pos) (n' := 0) (kn' := 0) hZ rfl rfl rfl (hA.ex (by with_reducible repeat (first | exact ex_refl _ | exact ex_more | apply ex_alloc | apply ex_plus | apply ex_drew | apply ex_drewN | (apply ex_on; assumption))))).mono ?_; rintro e w' ⟨xa, xc, xk, xkc, xhs, rfl, ⟨y1, rfl⟩, oX⟩) | (go_at_call 26; refine (plus_post (nsame_any (hs2 := []) (b := zeroG) ((oX.at (by decide) (by decide) (fun k hk => by simp [zeroG] at hk)).ex (by with_reducible repeat (first | exact ex_refl _ | exact ex_more | apply ex_alloc | apply ex_plus | apply ex_drew | apply ex_drewN | (apply ex_on; assumption)))) (own_zero (T := w).at (by decide) (by decide) (fun k hk => by simp [zeroG] at hk)))).mono ?_; rintro e w' ⟨rfl, nz, rfl⟩; rw [sameG_refl]))
    go_ret
    exact ⟨rfl, below_ex (by with_reducible repeat (first | exact ex_refl _ | exact ex_more | apply ex_alloc | apply ex_plus | apply ex_drew | apply ex_drewN | (apply ex_on; assumption)))⟩
  have hZ : linkRes gr (s, g) (i1, i2) pos = linkG gr (s, g) (i1, i2) pos := by rw [linkRes, if_pos he]
  have fL : Few (linkG gr (s, g) (i1, i2) pos) 401 := hZ ▸ few_link fA (s, g) (i1, i2) pos
  obtain ⟨ha, hk⟩ := back_kids he
  obtain ⟨hu, hu0⟩ := back_is he
  have hU : unlinkRes (linkG gr (s, g) (i1, i2) pos) (s, g) pos = gr := by rw [unlinkRes, if_pos hu0, hu]
  obtain ⟨_, _, _, k0, k1, h16, _⟩ := link_parts he
  obtain ⟨p, rfl⟩ := Int.eq_ofNat_of_zero_le k0
  have hpl := put_len (c := (i1, i2)) (show p ≤ (rowAt gr (s, g)).length by omega)
  have hnp := nth_put (c := (i1, i2)) (show p ≤ (rowAt gr (s, g)).length by omega)
  rw [Int.toNat_natCast] at hk
  have sL := sameG_refl gr
  go_enter Try.func7, Try.ntmps7
  go_upto_region 9 with (first | (go_at_call 14; refine (plus_post (galive_calls _)).mono ?_; rintro e w' ⟨rfl, na, rfl⟩) | (go_at_call 16; refine (plus_post (great_any (hG.ex (by with_reducible repeat (first | exact ex_refl _ | exact ex_more | apply ex_alloc | apply ex_plus | apply ex_drew | apply ex_drewN))))).mono ?_; rintro e w' ⟨rfl, nb, rfl⟩; rw [hg1]) | (go_at_call 10; refine (nlink_is (er := 0) hZ he rfl rfl (hA.ex (by with_reducible repeat (first | exact ex_refl _ | exact ex_more | apply ex_alloc | apply ex_plus | apply ex_drew | apply ex_drewN | (apply ex_on; assumption))))).mono ?_; rintro e w' ⟨xa, xc, xk, xkc, xhs, rfl, ⟨y1, rfl⟩, oX⟩) | (go_at_call 11; refine (nkids_is (er := 0) hk ha ((oX.atF fL (by decide)).ex (by with_reducible repeat (first | exact ex_refl _ | exact ex_more | apply ex_alloc | apply ex_plus | apply ex_drew | apply ex_drewN | (apply ex_on; assumption))))).mono ?_; rintro e w' ⟨Ka, Kn, Kc, rfl, ⟨y2, rfl⟩, oK⟩) | (go_at_call 13; refine (nunlink_is (er := 0) hU hu0 rfl rfl ((oX.atF fL (by decide)).ex (by with_reducible repeat (first | exact ex_refl _ | exact ex_more | apply ex_alloc | apply ex_plus | apply ex_drew | apply ex_drewN | (apply ex_on; assumption))))).mono ?_; rintro e w' ⟨ua, uc, uk, ukc, uhs, rfl, ⟨y3, rfl⟩, oU⟩))
  have hKn := oK.1
  have ip : (p : Int) < (Kn : Int) := by omega
  obtain ⟨ka, kf, rfl, hka, hkc⟩ := oK.lay.some (by omega)
  obtain ⟨u0, u1⟩ := cell2 hKn hkc (show p < Kn by omega)
  rw [hnp] at u0 u1
  refine name_world (fun w' => (∃ y, w' = plus w y) ∧ (w'.cell? ⟨ka, kf + p * 2, none⟩ = some (.int .i64 i1) ∧ w'.cell? ⟨ka, kf + p * 2 + 1, none⟩ = some (.int .i64 i2)) ∧ (w'.cell? ⟨w.heap.size + 1 + 1 + 1 + (blocks na).size + (blocks nb).size + (blocks y1).size + 1 + (blocks y2).size + (blocks y3).size, 0, none⟩ = some (.slice ua gr.sl.length uc) ∧ w'.cell? ⟨w.heap.size + 1 + 1 + 1 + (blocks na).size + (blocks nb).size + (blocks y1).size + 1 + (blocks y2).size + (blocks y3).size, 1, none⟩ = some (.slice uk gr.ks.length ukc)) ∧ (w'.cell? ⟨w.heap.size, 0, none⟩ = some (.slice ao n cap) ∧ w'.cell? ⟨w.heap.size, 1, none⟩ = some (.slice ko kn kcap)) ∧ (w'.cell? ⟨w.heap.size + 1 + 1, 0, none⟩ = some (.int .i64 i1) ∧ w'.cell? ⟨w.heap.size + 1 + 1, 1, none⟩ = some (.int .i64 i2)) ∧ GrAt w' ua gr.sl.length uk gr.ks.length uhs gr) ⟨(by with_reducible repeat (first | exact ex_refl _ | exact ex_more | apply ex_alloc | apply ex_plus | apply ex_drew | apply ex_drewN | (apply ex_on; assumption))), ⟨cell_ex (by with_reducible repeat (first | exact ex_refl _ | exact ex_more | apply ex_alloc | apply ex_plus | apply ex_drew | apply ex_drewN)) u0, cell_ex (by with_reducible repeat (first | exact ex_refl _ | exact ex_more | apply ex_alloc | apply ex_plus | apply ex_drew | apply ex_drewN)) u1⟩, ⟨by simp [go_sem, ↓IntWalk.iteOmega], by simp [go_sem, ↓IntWalk.iteOmega]⟩, ⟨by simp [go_sem, ↓IntWalk.iteOmega], by simp [go_sem, ↓IntWalk.iteOmega]⟩, ⟨by simp [go_sem, ↓IntWalk.iteOmega], by simp [go_sem, ↓IntWalk.iteOmega]⟩, (oU.atF fA (by decide)).ex (by with_reducible repeat (first | exact ex_refl _ | exact ex_more | apply ex_alloc | apply ex_plus | apply ex_drew | apply ex_drewN))⟩ ?_
  rintro v5 ⟨hv5, ⟨x0, x1⟩, ⟨x2, x3⟩, ⟨x4, x5⟩, ⟨x6, x7⟩, hU5⟩
  have hA5 := hA.ex hv5
  clear oX oK oU hkc u0 u1 hka
  generalize w.heap.size + 1 + 1 + 1 + (blocks na).size + (blocks nb).size + (blocks y1).size + 1 + (blocks y2).size + (blocks y3).size = yb at *
  have n0 := cell_lt x0
  have n2 := cell_lt x2
  have n4 := cell_lt x4
  have n6 := cell_lt x6
  refine region_plus (by kernel_rfl) (by kernel_rfl) ?_
  (repeat (go_big_quiet_step ((go_at_call 26; exact plus_of (nsame_self (hU5.ex (by with_reducible repeat (first | exact ex_refl _ | exact ex_more | apply ex_alloc | apply ex_plus | apply ex_drew | apply ex_drewN | (apply ex_on; assumption)))) (hA5.ex (by with_reducible repeat (first | exact ex_refl _ | exact ex_more | apply ex_alloc | apply ex_plus | apply ex_drew | apply ex_drewN | (apply ex_on; assumption)))))))))
  refine wpQuiet_nil ?_
  rintro _ ⟨x2, rfl⟩
  go_wp2
  go_ret
  exact ⟨rfl, below_ex (by with_reducible repeat (first | exact ex_refl _ | exact ex_more | apply ex_alloc | apply ex_plus | apply ex_drew | apply ex_drewN | (apply ex_on; assumption)))⟩

set_option maxRecDepth 100000 in
theorem nodesBack_lifted (os : Os) (started : os.Started) (H : Type) (enc : TypeId × Value → H) :
    ReturnsInHanded {} Try.checked os 7 .any (Rows.nodesBackSpec.pre6 enc Try.prog Try.f7 Rows.nodesBackRow.domain false) (Rows.nodesBackSpec.post enc Try.prog Try.f7 false true false false) := by
  refine returnsInHanded_of_change_sized (C := Try.checked) own started (by kernel_rfl) Try.func7
    (ChangeSpec.witness6 (enc := enc) (C := Try.checked) false ⟨#[], #[.agg #[.slice none 0 0, .slice none 0 0], .agg #[.int .i64 0, .int .i64 0], .agg #[.int .i64 0, .int .i64 0], .int .i64 0], []⟩ 8 (by kernel_rfl) (by kernel_rfl) (by kernel_rfl) (by kernel_rfl)) ?_
  intro W base args ds gs before hval0 hW hcnd hsz _
  have hval : ∀ (j : Nat) t v, Try.f7.params[j]? = some t → args[j]? = some v → Value.okWide Try.prog W .any base t v := hval0
  have hW' := hW
  obtain ⟨p, q, hA0, hV, rfl, hfz, hnd⟩ := hW
  have hA : DataW.TrodAll enc Try.prog W 0 (fun _ => true) true Try.f7.params.toList args.toList ds p := hA0
  rw [Try.params7] at hA hval
  obtain ⟨v0, vs0, d0, ds0, p0, q0, hargs, rfl, rfl, h0, r0⟩ := trodAll_cons hA
  obtain ⟨v1, vs1, d1, ds1, p1, q1, rfl, rfl, rfl, h1, r1⟩ := trodAll_cons r0
  obtain ⟨v2, vs2, d2, ds2, p2, q2, rfl, rfl, rfl, h2, r2⟩ := trodAll_cons r1
  obtain ⟨v3, vs3, d3, ds3, p3, q3, rfl, rfl, rfl, h3, r3⟩ := trodAll_cons r2
  obtain ⟨rfl, rfl, rfl⟩ := trodAll_nil r3
  obtain rfl : args = #[v0, v1, v2, v3] := by cases args; simp_all
  obtain ⟨ao0, n0, cap0, ko0, kn0, kcap0, hs0, g0, rfl, hG0⟩ := open_graph Try.underlying27 (by kernel_rfl) (by kernel_rfl) Try.underlying24 (by kernel_rfl) Try.underlying22 (by kernel_rfl) Try.underlying67 (by kernel_rfl) Try.underlying3 Try.underlying4 Try.underlying25 (by kernel_rfl) Try.underlying36 (by kernel_rfl) (by kernel_rfl) (by kernel_rfl) (sm_of hsz (j := 0) (by kernel_rfl) rfl) (hval 0 27 v0 rfl rfl) h0
  obtain ⟨a1_0, a1_1, rfl, ca1_0, ca1_1⟩ := open_flat2 (k := 4) (t := 29) (by kernel_rfl) (by kernel_rfl) (by kernel_rfl) (hval 1 29 v1 rfl rfl) h1
  obtain ⟨a2_0, a2_1, rfl, ca2_0, ca2_1⟩ := open_flat2 (k := 4) (t := 29) (by kernel_rfl) (by kernel_rfl) (by kernel_rfl) (hval 2 29 v2 rfl rfl) h2
  obtain ⟨a3, rfl, _, _, w3⟩ := open_int Try.underlying3 (hval 3 3 v3 rfl rfl) h3
  have b3 := bounds_i64 w3
  refine (nodesBack_walk ao0 n0 cap0 ko0 kn0 kcap0 hs0 g0 a1_0 a1_1 a2_0 a2_1 a3  W hG0).mono fun e W' ⟨he, hb⟩ => ?_
  exact ⟨_, he, law_post laidOut Try.underlying4 rfl (by kernel_rfl) (by kernel_rfl) (fun ds h => match ds, h with | [_, _, _, _], _ => rfl) hW' hb⟩

theorem nodesBack_holds : Rows.NodesBackSaid :=
  OpenClaim.holds_of_wide 7 Try.f7 rfl rfl rfl rfl rfl rfl rfl ⟨rfl, rfl, rfl, rfl, rfl⟩ rfl rfl rfl rfl rfl (by kernel_rfl) Try.func7 (by kernel_rfl)
    (of_decide_eq_true (by kernel_rfl)) (by unfold Func.isWrapper; first | (rw [if_pos (by decide +kernel)]; kernel_rfl) | (rw [if_neg (by decide +kernel)]; exact ⟨rfl, rfl⟩))
    (fun os started H enc _ => nodesBack_lifted os started H enc)
#print axioms nodesBack_holds
end Go.Proofs.Ytmmflpjfgapaaaa
