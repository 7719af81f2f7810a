/- BytesBacks is proved: what List writes is read back, whatever stands behind; what ReadList reads is written by List as just these bytes: the call returns true for any list, bytes and bound. No condition. -/
import Derived.Test.YthlklooaljaedaaBy9
import Derived.Test.YthlklooaljaedaaBy8
import Derived.Test.YthlklooaljaedaaLaw
import Derived.Deep.DeepCutAuto
namespace Go.Proofs.Ythlklooaljaedaa
open Go.RowKit Go.ChangeShapes Go.WideShapes Go.ChangeAt
set_option linter.unusedSimpArgs false
set_option linter.unusedVariables false
attribute [local go_sem] plus_size plus_drew dn_set dn_alloc dn_plus plus_dn cell_plus frozen_plus set_plus cell_alloc frozen_alloc set_alloc

theorem Byt.app {a b : List Int} (h : Byt a) (h2 : Byt b) : Byt (a ++ b) := by
  intro x hx
  rcases List.mem_append.1 hx with h3 | h3
  · exact h x h3
  · exact h2 x h3
theorem list_byt (l : List Int) : Byt (listL l).1 := by
  unfold listL
  split
  · intro x hx; simp at hx
  split
  · refine (bytesOf_byt _).app fun x hx => ?_
    obtain ⟨y, _, hy⟩ := List.mem_flatMap.1 hx
    exact bytesOf_byt y x hy
  · intro x hx; simp at hx
theorem list_few (l : List Int) (h : l.length ≤ 5000) : (listL l).1.length ≤ 100000 := by
  by_cases ha : l.all canB = true
  · have h1 := pfx_all (l := l) (by omega) (fun j hj => by
      have := List.all_eq_true.1 ha _ (nth_mem (d := 0) hj)
      exact this)
    have h2 := pfx_len (l := l) (by omega) l.length (Nat.le_refl _) (fun j hj => List.all_eq_true.1 ha _ (nth_mem (d := 0) hj))
    rw [h1]
    show (pfx l l.length).length ≤ _
    omega
  · rw [listL, if_neg (by omega), if_neg ha]
    simp
theorem list_ways (l : List Int) (h : l.length ≤ 5000) : listL l = ([], 2) ∨ ∃ xs, listL l = (xs, 0) ∧ xs.length ≤ 100000 ∧ Byt xs ∧ ∀ b, readsL (xs ++ b) l.length = (l, (xs.length : Int), 0) := by
  have h1 := list_byt l
  have h2 := list_few l h
  by_cases ha : l.all canB = true
  · right
    have hl : listL l = ((listL l).1, 0) := by
      rw [listL, if_neg (by omega), if_pos ha]
    exact ⟨_, hl, h2, h1, fun b => list_reads l b (by rw [hl])⟩
  · left
    rw [listL, if_neg (by omega), if_neg ha]
theorem reads_ways {b : List Int} (most : Int) (hb : Byt b) : readsL b most = ([], 0, 2) ∨ readsL b most = ([], 0, 8) ∨ ∃ m q, readsL b most = (m, ((q : Nat) : Int), 0) ∧ q ≤ b.length ∧ listL m = (b.take q, 0) ∧ (m.length : Int) ≤ most ∧ m.length ≤ 65536 := by
  by_cases h0 : most < 0 ∨ 65536 < most
  · exact .inl (reads_arg h0)
  right
  cases h1 : badL b most
  · rw [reads_good h0 h1]
    cases hg : getL (readL b).1.toNat (b.drop (readL b).2.1.toNat) with
    | none => exact .inl (by rw [getsL, hg])
    | some p =>
      right
      have e : getsL [] (readL b).2.1.toNat (readL b).1.toNat b = (p.1, (((readL b).2.1.toNat + p.2 : Nat) : Int), 0) := by rw [getsL, hg]; rfl
      have h2 := reads_good h0 h1
      rw [e] at h2
      obtain ⟨g1, g2, g3, g4⟩ := reads_list hb h2
      have g5 := reads_len b most
      rw [h2] at g5
      exact ⟨_, _, e, by omega, by rw [g1, Int.toNat_natCast], g4, g5⟩
  · exact .inl (reads_bad h0 h1)
theorem own_lit {e : TypeId} {c : Nat} {α : Type} {f : α → List Value} {T w : World} (h : T.heap.size ≤ w.heap.size) : Own e c f T (w.alloc (.cells #[] e)) (some ⟨w.heap.size, 0, none⟩) 0 0 [] :=
  ⟨rfl, World.ownsRow_made w _ 0 h (by unfold maxLen; omega) (by simp)⟩
theorem Own.cap_le {e : TypeId} {c n cap : Nat} {α : Type} {f : α → List Value} {T w : World} {ao : Option Addr} {l : List α} (h : Own e c f T w ao n cap l) : n ≤ cap := by
  rcases h.2.2 with ⟨e, _⟩ | ⟨g, cp, cur, e, _, _, hcp, _⟩
  · simp only [Value.slice.injEq] at e; omega
  · simp only [Value.slice.injEq] at e; omega

set_option maxRecDepth 100000 in
set_option maxHeartbeats 4000000 in
theorem bytesBacks_walk (ao : Option Addr) (n cap : Nat) (l : List Int) (bo : Option Addr) (bn bcap : Nat) (b : List Int) (most : Int) (w : World) (hn : n ≤ 9223372036854775807) (hl : Lay fI w ao n l) (hbn : bn ≤ 9223372036854775807) (hcap : bn ≤ bcap) (hbl : Lay fU w bo bn b) (hb : Byt b) :
    Calls Try.prog 7 #[.slice ao n cap, .slice bo bn bcap, .int .i64 most] w fun e w' => e = .returned (.bool true) ∧ Below w.heap.size w w' := by
  have hlen := hl.len
  have hbln := hbl.len
  by_cases hbig : 5000 < n
  · have i1 : (5000 : Int) < (n : Int) := by omega
    go_enter Try.func7, Try.ntmps7
    go_wp2_with (go_at_call 11; refine (alive8_calls _).mono ?_; rintro e w0 ⟨rfl, hw0⟩)
    go_ret
    exact ⟨rfl, below_ex (by with_reducible repeat (first | exact ex_refl _ | exact ex_more8 | apply ex_alloc | apply ex_plus | apply ex_drew | apply ex_drewN | (apply ex_on; assumption)))⟩
  have i1 : ¬ (5000 : Int) < (n : Int) := by omega
  by_cases hbb : 20000 < bn
  · have i4 : (20000 : Int) < (bn : Int) := by omega
    go_enter Try.func7, Try.ntmps7
    go_wp2_with (go_at_call 11; refine (alive8_calls _).mono ?_; rintro e w0 ⟨rfl, hw0⟩)
    go_ret
    exact ⟨rfl, below_ex (by with_reducible repeat (first | exact ex_refl _ | exact ex_more8 | apply ex_alloc | apply ex_plus | apply ex_drew | apply ex_drewN | (apply ex_on; assumption)))⟩
  have i4 : ¬ (20000 : Int) < (bn : Int) := by omega
  have hways := reads_ways most hb
  rcases list_ways l (by omega) with hL | ⟨xs, hL, hxl, hxb, hxr⟩
  · rcases hways with hR | hR | ⟨m, q, hR, hq, hM, hmm, hm6⟩
    · go_enter Try.func7, Try.ntmps7
      go_upto_region 9 with (first | (go_at_call 11; refine (alive8_calls _).mono ?_; rintro e w0 ⟨rfl, hw0⟩) | (go_at_call 8; refine (list_calls _ _ _ l _ (hl.ex (by with_reducible repeat (first | exact ex_refl _ | exact ex_more8 | apply ex_alloc | apply ex_plus | apply ex_drew | apply ex_drewN | (apply ex_on; assumption)))) (by omega)).mono ?_; rw [hL]; rintro e w1 ⟨a2, c2, rfl, hw1, ox⟩))
      go_wp2_with (go_at_call 9; refine (readList_calls _ _ _ b _ _ (hbl.ex (by with_reducible repeat (first | exact ex_refl _ | exact ex_more8 | apply ex_alloc | apply ex_plus | apply ex_drew | apply ex_drewN | (apply ex_on; assumption)))) hb (by omega) hcap).mono ?_; rw [hR]; rintro e w3 ⟨a4, c4, rfl, hw3, oz⟩)
      go_ret
      exact ⟨rfl, below_ex (by with_reducible repeat (first | exact ex_refl _ | exact ex_more8 | apply ex_alloc | apply ex_plus | apply ex_drew | apply ex_drewN | (apply ex_on; assumption)))⟩
    · go_enter Try.func7, Try.ntmps7
      go_upto_region 9 with (first | (go_at_call 11; refine (alive8_calls _).mono ?_; rintro e w0 ⟨rfl, hw0⟩) | (go_at_call 8; refine (list_calls _ _ _ l _ (hl.ex (by with_reducible repeat (first | exact ex_refl _ | exact ex_more8 | apply ex_alloc | apply ex_plus | apply ex_drew | apply ex_drewN | (apply ex_on; assumption)))) (by omega)).mono ?_; rw [hL]; rintro e w1 ⟨a2, c2, rfl, hw1, ox⟩))
      go_wp2_with (go_at_call 9; refine (readList_calls _ _ _ b _ _ (hbl.ex (by with_reducible repeat (first | exact ex_refl _ | exact ex_more8 | apply ex_alloc | apply ex_plus | apply ex_drew | apply ex_drewN | (apply ex_on; assumption)))) hb (by omega) hcap).mono ?_; rw [hR]; rintro e w3 ⟨a4, c4, rfl, hw3, oz⟩)
      go_ret
      exact ⟨rfl, below_ex (by with_reducible repeat (first | exact ex_refl _ | exact ex_more8 | apply ex_alloc | apply ex_plus | apply ex_drew | apply ex_drewN | (apply ex_on; assumption)))⟩
    · have htl : (b.take q).length = q := by rw [List.length_take]; omega
      have hqn : q ≤ bn := by omega
      have iq : (q : Int) ≤ (bn : Int) := by omega
      have hqc : q ≤ bcap := by omega
      clear hq
      go_enter Try.func7, Try.ntmps7
      go_upto_region 9 with (first | (go_at_call 11; refine (alive8_calls _).mono ?_; rintro e w0 ⟨rfl, hw0⟩) | (go_at_call 8; refine (list_calls _ _ _ l _ (hl.ex (by with_reducible repeat (first | exact ex_refl _ | exact ex_more8 | apply ex_alloc | apply ex_plus | apply ex_drew | apply ex_drewN | (apply ex_on; assumption)))) (by omega)).mono ?_; rw [hL]; rintro e w1 ⟨a2, c2, rfl, hw1, ox⟩))
      go_upto_region 11 with (go_at_call 9; refine (readList_calls _ _ _ b _ _ (hbl.ex (by with_reducible repeat (first | exact ex_refl _ | exact ex_more8 | apply ex_alloc | apply ex_plus | apply ex_drew | apply ex_drewN | (apply ex_on; assumption)))) hb (by omega) hcap).mono ?_; rw [hR]; rintro e w3 ⟨a4, c4, rfl, hw3, oz⟩)
      go_upto_region 13 with (go_at_call 8; refine (list_calls _ m.length _ m _ oz.lay (by omega)).mono ?_; rw [hM]; unfold RetB; simp only [htl]; rintro e w4 ⟨a5, c5, rfl, hw4, ov⟩)
      have k1 := fun y => run_conv_lay (P := Try.prog) (w := plus w4 y) (src := 22) (dst := 9) (cap := c5) Try.underlying22 Try.underlying5 Try.underlying9 (ov.lay.ex ⟨y, rfl⟩)
      have k2 := fun y => run_conv_lay (P := Try.prog) (w := plus w4 y) (src := 22) (dst := 9) (cap := bcap) Try.underlying22 Try.underlying5 Try.underlying9 ((lay_take8 hbl hqn).ex (by with_reducible repeat (first | exact ex_refl _ | exact ex_more8 | apply ex_alloc | apply ex_plus | apply ex_drew | apply ex_drewN | (apply ex_on; assumption))))
      refine region_plus (by kernel_rfl) (by kernel_rfl) ?_
      (repeat (go_big_quiet_step (fail)))
      refine wpQuiet_nil ?_
      rintro _ ⟨x2, rfl⟩
      go_wp2
      go_ret
      exact ⟨rfl, below_ex (by with_reducible repeat (first | exact ex_refl _ | exact ex_more8 | apply ex_alloc | apply ex_plus | apply ex_drew | apply ex_drewN | (apply ex_on; assumption)))⟩
  · have hrx := hxr b
    rw [hlen] at hrx
    have hby : Byt (xs ++ b) := hxb.app hb
    rcases hways with hR | hR | ⟨m, q, hR, hq, hM, hmm, hm6⟩
    · go_enter Try.func7, Try.ntmps7
      go_upto_region 6 with (first | (go_at_call 11; refine (alive8_calls _).mono ?_; rintro e w0 ⟨rfl, hw0⟩) | (go_at_call 8; refine (list_calls _ _ _ l _ (hl.ex (by with_reducible repeat (first | exact ex_refl _ | exact ex_more8 | apply ex_alloc | apply ex_plus | apply ex_drew | apply ex_drewN | (apply ex_on; assumption)))) (by omega)).mono ?_; rw [hL]; rintro e w1 ⟨a2, c2, rfl, hw1, ox⟩))
      go_upto_region 7 with (first | (at_builtin; refine wpList_append_far (T := w0) rfl _ _ rfl kinU fU_c fU_1 rfl (by with_reducible repeat (first | exact ex_refl _ | exact ex_more8 | apply ex_alloc | apply ex_plus | apply ex_drew | apply ex_drewN | (apply ex_on; assumption))) (by first | exact o6 | exact own_lit (size_ex hw1)) rfl (by first | exact ox.lay.ex (by with_reducible repeat (first | exact ex_refl _ | exact ex_more8 | apply ex_alloc | apply ex_plus | apply ex_drew | apply ex_drewN | (apply ex_on; assumption))) | exact hbl.ex (by with_reducible repeat (first | exact ex_refl _ | exact ex_more8 | apply ex_alloc | apply ex_plus | apply ex_drew | apply ex_drewN | (apply ex_on; assumption)))) (by omega) (by decide) ?_; intro a6 c6 y6 o6; try rw [Nat.zero_add, List.nil_append] at o6) | (go_at_call 9; refine (readList_calls _ _ _ (xs ++ b) _ _ o6.lay hby (by omega) o6.cap_le).mono ?_; rw [hrx]; rintro e w2 ⟨a3, c3, rfl, hw2, oy⟩; have ly : Lay fI w2 a3 n l := hlen ▸ (show Lay fI w2 a3 l.length l from oy.lay)))
      go_upto_region 9 with (go_at_call 18; refine (numbers_any (l := l) (ly.ex (by with_reducible repeat (first | exact ex_refl _ | exact ex_more8 | apply ex_alloc | apply ex_plus | apply ex_drew | apply ex_drewN | (apply ex_on; assumption)))) (hl.ex (by with_reducible repeat (first | exact ex_refl _ | exact ex_more8 | apply ex_alloc | apply ex_plus | apply ex_drew | apply ex_drewN | (apply ex_on; assumption)))) (by omega)).mono ?_; rintro e w5 ⟨rfl, hw5⟩)
      go_wp2_with (go_at_call 9; refine (readList_calls _ _ _ b _ _ (hbl.ex (by with_reducible repeat (first | exact ex_refl _ | exact ex_more8 | apply ex_alloc | apply ex_plus | apply ex_drew | apply ex_drewN | (apply ex_on; assumption)))) hb (by omega) hcap).mono ?_; rw [hR]; rintro e w3 ⟨a4, c4, rfl, hw3, oz⟩)
      go_ret
      exact ⟨rfl, below_ex (by with_reducible repeat (first | exact ex_refl _ | exact ex_more8 | apply ex_alloc | apply ex_plus | apply ex_drew | apply ex_drewN | (apply ex_on; assumption)))⟩
    · go_enter Try.func7, Try.ntmps7
      go_upto_region 6 with (first | (go_at_call 11; refine (alive8_calls _).mono ?_; rintro e w0 ⟨rfl, hw0⟩) | (go_at_call 8; refine (list_calls _ _ _ l _ (hl.ex (by with_reducible repeat (first | exact ex_refl _ | exact ex_more8 | apply ex_alloc | apply ex_plus | apply ex_drew | apply ex_drewN | (apply ex_on; assumption)))) (by omega)).mono ?_; rw [hL]; rintro e w1 ⟨a2, c2, rfl, hw1, ox⟩))
      go_upto_region 7 with (first | (at_builtin; refine wpList_append_far (T := w0) rfl _ _ rfl kinU fU_c fU_1 rfl (by with_reducible repeat (first | exact ex_refl _ | exact ex_more8 | apply ex_alloc | apply ex_plus | apply ex_drew | apply ex_drewN | (apply ex_on; assumption))) (by first | exact o6 | exact own_lit (size_ex hw1)) rfl (by first | exact ox.lay.ex (by with_reducible repeat (first | exact ex_refl _ | exact ex_more8 | apply ex_alloc | apply ex_plus | apply ex_drew | apply ex_drewN | (apply ex_on; assumption))) | exact hbl.ex (by with_reducible repeat (first | exact ex_refl _ | exact ex_more8 | apply ex_alloc | apply ex_plus | apply ex_drew | apply ex_drewN | (apply ex_on; assumption)))) (by omega) (by decide) ?_; intro a6 c6 y6 o6; try rw [Nat.zero_add, List.nil_append] at o6) | (go_at_call 9; refine (readList_calls _ _ _ (xs ++ b) _ _ o6.lay hby (by omega) o6.cap_le).mono ?_; rw [hrx]; rintro e w2 ⟨a3, c3, rfl, hw2, oy⟩; have ly : Lay fI w2 a3 n l := hlen ▸ (show Lay fI w2 a3 l.length l from oy.lay)))
      go_upto_region 9 with (go_at_call 18; refine (numbers_any (l := l) (ly.ex (by with_reducible repeat (first | exact ex_refl _ | exact ex_more8 | apply ex_alloc | apply ex_plus | apply ex_drew | apply ex_drewN | (apply ex_on; assumption)))) (hl.ex (by with_reducible repeat (first | exact ex_refl _ | exact ex_more8 | apply ex_alloc | apply ex_plus | apply ex_drew | apply ex_drewN | (apply ex_on; assumption)))) (by omega)).mono ?_; rintro e w5 ⟨rfl, hw5⟩)
      go_wp2_with (go_at_call 9; refine (readList_calls _ _ _ b _ _ (hbl.ex (by with_reducible repeat (first | exact ex_refl _ | exact ex_more8 | apply ex_alloc | apply ex_plus | apply ex_drew | apply ex_drewN | (apply ex_on; assumption)))) hb (by omega) hcap).mono ?_; rw [hR]; rintro e w3 ⟨a4, c4, rfl, hw3, oz⟩)
      go_ret
      exact ⟨rfl, below_ex (by with_reducible repeat (first | exact ex_refl _ | exact ex_more8 | apply ex_alloc | apply ex_plus | apply ex_drew | apply ex_drewN | (apply ex_on; assumption)))⟩
    · have htl : (b.take q).length = q := by rw [List.length_take]; omega
      have hqn : q ≤ bn := by omega
      have iq : (q : Int) ≤ (bn : Int) := by omega
      have hqc : q ≤ bcap := by omega
      clear hq
      go_enter Try.func7, Try.ntmps7
      go_upto_region 6 with (first | (go_at_call 11; refine (alive8_calls _).mono ?_; rintro e w0 ⟨rfl, hw0⟩) | (go_at_call 8; refine (list_calls _ _ _ l _ (hl.ex (by with_reducible repeat (first | exact ex_refl _ | exact ex_more8 | apply ex_alloc | apply ex_plus | apply ex_drew | apply ex_drewN | (apply ex_on; assumption)))) (by omega)).mono ?_; rw [hL]; rintro e w1 ⟨a2, c2, rfl, hw1, ox⟩))
      go_upto_region 7 with (first | (at_builtin; refine wpList_append_far (T := w0) rfl _ _ rfl kinU fU_c fU_1 rfl (by with_reducible repeat (first | exact ex_refl _ | exact ex_more8 | apply ex_alloc | apply ex_plus | apply ex_drew | apply ex_drewN | (apply ex_on; assumption))) (by first | exact o6 | exact own_lit (size_ex hw1)) rfl (by first | exact ox.lay.ex (by with_reducible repeat (first | exact ex_refl _ | exact ex_more8 | apply ex_alloc | apply ex_plus | apply ex_drew | apply ex_drewN | (apply ex_on; assumption))) | exact hbl.ex (by with_reducible repeat (first | exact ex_refl _ | exact ex_more8 | apply ex_alloc | apply ex_plus | apply ex_drew | apply ex_drewN | (apply ex_on; assumption)))) (by omega) (by decide) ?_; intro a6 c6 y6 o6; try rw [Nat.zero_add, List.nil_append] at o6) | (go_at_call 9; refine (readList_calls _ _ _ (xs ++ b) _ _ o6.lay hby (by omega) o6.cap_le).mono ?_; rw [hrx]; rintro e w2 ⟨a3, c3, rfl, hw2, oy⟩; have ly : Lay fI w2 a3 n l := hlen ▸ (show Lay fI w2 a3 l.length l from oy.lay)))
      go_upto_region 9 with (go_at_call 18; refine (numbers_any (l := l) (ly.ex (by with_reducible repeat (first | exact ex_refl _ | exact ex_more8 | apply ex_alloc | apply ex_plus | apply ex_drew | apply ex_drewN | (apply ex_on; assumption)))) (hl.ex (by with_reducible repeat (first | exact ex_refl _ | exact ex_more8 | apply ex_alloc | apply ex_plus | apply ex_drew | apply ex_drewN | (apply ex_on; assumption)))) (by omega)).mono ?_; rintro e w5 ⟨rfl, hw5⟩)
      go_upto_region 11 with (go_at_call 9; refine (readList_calls _ _ _ b _ _ (hbl.ex (by with_reducible repeat (first | exact ex_refl _ | exact ex_more8 | apply ex_alloc | apply ex_plus | apply ex_drew | apply ex_drewN | (apply ex_on; assumption)))) hb (by omega) hcap).mono ?_; rw [hR]; rintro e w3 ⟨a4, c4, rfl, hw3, oz⟩)
      go_upto_region 13 with (go_at_call 8; refine (list_calls _ m.length _ m _ oz.lay (by omega)).mono ?_; rw [hM]; unfold RetB; simp only [htl]; rintro e w4 ⟨a5, c5, rfl, hw4, ov⟩)
      have k1 := fun y => run_conv_lay (P := Try.prog) (w := plus w4 y) (src := 22) (dst := 9) (cap := c5) Try.underlying22 Try.underlying5 Try.underlying9 (ov.lay.ex ⟨y, rfl⟩)
      have k2 := fun y => run_conv_lay (P := Try.prog) (w := plus w4 y) (src := 22) (dst := 9) (cap := bcap) Try.underlying22 Try.underlying5 Try.underlying9 ((lay_take8 hbl hqn).ex (by with_reducible repeat (first | exact ex_refl _ | exact ex_more8 | apply ex_alloc | apply ex_plus | apply ex_drew | apply ex_drewN | (apply ex_on; assumption))))
      refine region_plus (by kernel_rfl) (by kernel_rfl) ?_
      (repeat (go_big_quiet_step (fail)))
      refine wpQuiet_nil ?_
      rintro _ ⟨x2, rfl⟩
      go_wp2
      go_ret
      exact ⟨rfl, below_ex (by with_reducible repeat (first | exact ex_refl _ | exact ex_more8 | apply ex_alloc | apply ex_plus | apply ex_drew | apply ex_drewN | (apply ex_on; assumption)))⟩

set_option maxRecDepth 100000 in
theorem bytesBacks_lifted (os : Os) (started : os.Started) (H : Type) (enc : TypeId × Value → H) :
    ReturnsInHanded {} Try.checked os 7 .any (Rows.bytesBacksSpec.pre6 enc Try.prog Try.f7 Rows.bytesBacksRow.domain false) (Rows.bytesBacksSpec.post enc Try.prog Try.f7 false true false false) := by
  refine returnsInHanded_of_change (C := Try.checked) own started (by kernel_rfl) Try.func7
    (ChangeSpec.witness6 (enc := enc) (C := Try.checked) false ⟨#[], #[.slice none 0 0, .slice none 0 0, .int .i64 0], []⟩ 8 (by kernel_rfl) (by kernel_rfl) (by kernel_rfl) (by kernel_rfl)) ?_
  intro W base args ds gs before hval0 hW hcnd _
  have hval : ∀ (j : Nat) t v, Try.f7.params[j]? = some t → args[j]? = some v → Value.okWide Try.prog W .any base t v := hval0
  have hW' := hW
  obtain ⟨p, q, hA0, hV, rfl, hfz, hnd⟩ := hW
  have hA : DataW.TrodAll enc Try.prog W 0 (fun _ => true) true Try.f7.params.toList args.toList ds p := hA0
  rw [Try.params7] at hA hval
  obtain ⟨v0, vs0, d0, ds0, p0, q0, hargs, rfl, rfl, h0, r0⟩ := trodAll_cons hA
  obtain ⟨v1, vs1, d1, ds1, p1, q1, rfl, rfl, rfl, h1, r1⟩ := trodAll_cons r0
  obtain ⟨v2, vs2, d2, ds2, p2, q2, rfl, rfl, rfl, h2, r2⟩ := trodAll_cons r1
  obtain ⟨rfl, rfl, rfl⟩ := trodAll_nil r2
  obtain rfl : args = #[v0, v1, v2] := by cases args; simp_all
  obtain ⟨fu0, x0, hx0⟩ := slice_cell Try.underlying26 (hval 0 26 v0 rfl rfl) h0
  obtain ⟨ao0, n0, cap0, rfl, hn0, _, ho0⟩ := open_sl (c := 1) Try.underlying26 (by kernel_rfl) (by decide) hx0
  obtain ⟨l0, hl0⟩ := lay_ints (by kernel_rfl) ho0
  obtain ⟨fu1, x1, hx1⟩ := slice_cell Try.underlying22 (hval 1 22 v1 rfl rfl) h1
  obtain ⟨ao1, n1, cap1, rfl, hn1, hz1, ho1⟩ := open_slc (c := 1) Try.underlying22 (by kernel_rfl) (by decide) hx1
  obtain ⟨l1, hl1, hb1⟩ := lay_bytes Try.underlying5 ho1
  obtain ⟨a2, rfl, _, _, w2⟩ := open_int Try.underlying3 (hval 2 3 v2 rfl rfl) h2
  have b2 := bounds_i64 w2
  refine (bytesBacks_walk ao0 n0 cap0 l0 ao1 n1 cap1 l1 a2  W hn0 hl0 hn1 hz1 hl1 hb1).mono fun e W' ⟨he, hb⟩ => ?_
  exact ⟨_, he, law_post laidOut Try.underlying4 rfl (by kernel_rfl) (by kernel_rfl) (fun ds h => match ds, h with | [_, _, _], _ => rfl) hW' hb⟩

theorem bytesBacks_holds : Rows.BytesBacksSaid :=
  OpenClaim.holds_of_wide 7 Try.f7 rfl rfl rfl rfl rfl rfl rfl ⟨rfl, rfl, rfl, rfl, rfl⟩ rfl rfl rfl rfl rfl (by kernel_rfl) Try.func7 (by kernel_rfl)
    (of_decide_eq_true (by kernel_rfl)) (by unfold Func.isWrapper; first | (rw [if_pos (by decide +kernel)]; kernel_rfl) | (rw [if_neg (by decide +kernel)]; exact ⟨rfl, rfl⟩))
    (fun os started H enc _ => bytesBacks_lifted os started H enc)
#print axioms bytesBacks_holds
end Go.Proofs.Ythlklooaljaedaa
