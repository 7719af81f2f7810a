/- What mesh.samePrim, slices.EqualFunc and mesh.Same give. -/
import Derived.Test.YtkiahgkfgcjkgaaMesh4
import Derived.Test.YtkiahgkfgcjkgaaMeshMath3
namespace Go.Proofs.Ytkiahgkfgcjkgaa
open Go.RowKit Go.ChangeShapes Go.WideShapes Go.ChangeAt
set_option linter.unusedSimpArgs false
set_option linter.unusedVariables false
attribute [local go_sem] plus_size plus_drew dn_set dn_alloc dn_plus plus_dn cell_plus frozen_plus set_plus cell_alloc frozen_alloc set_alloc

attribute [local go_sem] eqarr_34 nearr_34 larr_34

attribute [local go_sem] eqarr_50 nearr_50 larr_50

attribute [local go_sem] isnil_26

attribute [local go_sem] isnil_29

attribute [local go_sem] isnil_30

attribute [local go_sem] isnil_31

def samePr (p q : Pr) : Bool := decide (p.kind = q.kind) && sameI p.ix q.ix
def samePs (l l2 : List Pr) : Bool := sameL samePr dPr l l2
def sameMs (m o : Ms) : Bool := sameV m.vs o.vs && same2 m.uv o.uv && samePs m.ps o.ps
/-- no primitive has more than 1000 numbers -/
def Few (hs : List PH) : Prop := ∀ k, k < hs.length → (nth dPH hs k).n ≤ 1000

theorem samePrim_calls (k1 k2 : Int) (a1 a2 : Option Addr) (n1 n2 c1 c2 : Nat) (x1 x2 : List Int) (w : World) (hl1 : Lay fI w a1 n1 x1) (hl2 : Lay fI w a2 n2 x2) (hn1 : n1 ≤ 1000) (hn2 : n2 ≤ 1000) :
    Calls Try.prog 38 #[.agg #[.int .u8 k1, .slice a1 n1 c1], .agg #[.int .u8 k2, .slice a2 n2 c2]] w fun e w' => e = .returned (.bool (samePr ⟨k1, x1⟩ ⟨k2, x2⟩)) ∧ Below w.heap.size w w' := by
  by_cases hk : k1 = k2
  · rw [show samePr ⟨k1, x1⟩ ⟨k2, x2⟩ = sameI x1 x2 by simp [samePr, hk]]
    subst hk
    go_enter Try.func38, Try.ntmps38
    go_wp2_with (go_at_call 44; refine (plus_post (equalI_calls _ _ _ _ _ _ x1 x2 _ (hl1.ex (by with_reducible repeat (first | exact ex_refl _ | exact ex_more | apply ex_alloc | apply ex_plus | apply ex_drew | apply ex_drewN))) (hl2.ex (by with_reducible repeat (first | exact ex_refl _ | exact ex_more | apply ex_alloc | apply ex_plus | apply ex_drew | apply ex_drewN))) (by omega) (by omega))).mono ?_; rintro e w' ⟨rfl, nx, rfl⟩)
    go_ret
    exact ⟨rfl, by with_reducible repeat (first | exact Below.refl _ _ | apply ba | apply bp | apply bd | apply bn)⟩
  · rw [show samePr ⟨k1, x1⟩ ⟨k2, x2⟩ = false by simp [samePr, hk]]
    have dk : (k1 == k2) = false := by rw [beq_eq_false_iff_ne]; exact hk
    go_enter Try.func38, Try.ntmps38
    go_wp2_with (go_at_call 44; refine (plus_post (equalI_calls _ _ _ _ _ _ x1 x2 _ (hl1.ex (by with_reducible repeat (first | exact ex_refl _ | exact ex_more | apply ex_alloc | apply ex_plus | apply ex_drew | apply ex_drewN))) (hl2.ex (by with_reducible repeat (first | exact ex_refl _ | exact ex_more | apply ex_alloc | apply ex_plus | apply ex_drew | apply ex_drewN))) (by omega) (by omega))).mono ?_; rintro e w' ⟨rfl, nx, rfl⟩)
    go_ret
    exact ⟨rfl, by with_reducible repeat (first | exact Below.refl _ _ | apply ba | apply bp | apply bd | apply bn)⟩

set_option maxHeartbeats 4000000 in
theorem equalFunc_calls (pa qa : Option Addr) (pn qn pc qc : Nat) (hs gs : List PH) (ps qs : List Pr) (w : World) (hpl : Lay fP w pa pn hs) (hql : Lay fP w qa qn gs) (hpp : PrimsAt w hs ps) (hqq : PrimsAt w gs qs) (hf : Few hs) (hg : Few gs) (hpn : pn ≤ 10000) (hqn : qn ≤ 10000) :
    Calls Try.prog 37 #[.slice pa pn pc, .slice qa qn qc, .func (.func 38) #[] #[]] w fun e w' => e = .returned (.bool (samePs ps qs)) ∧ Below w.heap.size w w' := by
  have l1 := hpl.len
  have l2 := hql.len
  have l3 := hpp.len
  have l4 := hqq.len
  by_cases hne : pn = qn
  rotate_left
  · rw [show samePs ps qs = false from same_len (by omega)]
    have ine : ¬ (pn : Int) = (qn : Int) := by omega
    have dne : ((pn : Int) == (qn : Int)) = false := by rw [beq_eq_false_iff_ne]; omega
    go_enter Try.func37, Try.ntmps37
    go_wp2
    go_ret
    exact ⟨rfl, by with_reducible repeat (first | exact Below.refl _ _ | apply ba | apply bp | apply bd | apply bn)⟩
  subst hne
  go_enter Try.func37, Try.ntmps37
  go_wp2
  go_loopw [17] (fun i wr => ∃ k : Nat, k ≤ pn ∧ i = .int .i64 k ∧ (∀ j, j < k → samePr (nth dPr ps j) (nth dPr qs j) = true) ∧ ∃ x, wr = plus w x) (fun i _ => pn - (intOf i).toNat)
  case atStart => exact ⟨0, Nat.zero_le _, rfl, fun j hj => by omega, (by with_reducible repeat (first | exact ex_refl _ | exact ex_more | apply ex_alloc | apply ex_plus | apply ex_drew | apply ex_drewN))⟩
  case round =>
    obtain ⟨k, hk, rfl, hs1, x, rfl⟩ := hrel
    by_cases hkl : k < pn
    · obtain ⟨g, off, rfl, hgl, hcell⟩ := hpl.some (by omega)
      obtain ⟨g2, off2, rfl, hgl2, hcell2⟩ := hql.some (by omega)
      have ik : (k : Int) < (pn : Int) := by omega
      have hf1 := hf k (by omega)
      have hg1 := hg k (by omega)
      obtain ⟨p0, p1⟩ := cellP hpl.len hcell (k := k) (by omega)
      have hp := hpp.one k (by rw [hpl.len]; omega)
      generalize hpep : nth dPr ps k = pr at *
      generalize hhep : nth dPH hs k = ph at *
      obtain ⟨pk, pA, pN, pC⟩ := ph
      obtain ⟨pk2, px⟩ := pr
      obtain ⟨hp1, hp2, hp3, hp4, hp5, hp6⟩ := hp
      simp only at p0 p1 hp1 hp2 hp3 hp4 hp5 hp6
      subst hp1
      obtain ⟨q0, q1⟩ := cellP hql.len hcell2 (k := k) (by omega)
      have hq := hqq.one k (by rw [hql.len]; omega)
      generalize hpeq : nth dPr qs k = qr at *
      generalize hheq : nth dPH gs k = qh at *
      obtain ⟨qk, qA, qN, qC⟩ := qh
      obtain ⟨qk2, qx⟩ := qr
      obtain ⟨hq1, hq2, hq3, hq4, hq5, hq6⟩ := hq
      simp only at q0 q1 hq1 hq2 hq3 hq4 hq5 hq6
      subst hq1
      simp only at hf1 hg1
      cases he : samePr ⟨pk, px⟩ ⟨qk, qx⟩
      · go_wp2_with (go_at_call 38; refine (plus_post (samePrim_calls _ _ _ _ _ _ _ _ px qx _ (hp6.ex (by with_reducible repeat (first | exact ex_refl _ | exact ex_more | apply ex_alloc | apply ex_plus | apply ex_drew | apply ex_drewN))) (hq6.ex (by with_reducible repeat (first | exact ex_refl _ | exact ex_more | apply ex_alloc | apply ex_plus | apply ex_drew | apply ex_drewN))) (by omega) (by omega))).mono ?_; rintro e w' ⟨rfl, nx, rfl⟩; rw [he])
        go_ret
        exact ⟨by rw [show samePs ps qs = false from same_not (k := k) (by omega) (by rw [hpep, hpeq]; exact he)]; rfl, by with_reducible repeat (first | exact Below.refl _ _ | apply ba | apply bp | apply bd | apply bn)⟩
      · go_wp2_with (go_at_call 38; refine (plus_post (samePrim_calls _ _ _ _ _ _ _ _ px qx _ (hp6.ex (by with_reducible repeat (first | exact ex_refl _ | exact ex_more | apply ex_alloc | apply ex_plus | apply ex_drew | apply ex_drewN))) (hq6.ex (by with_reducible repeat (first | exact ex_refl _ | exact ex_more | apply ex_alloc | apply ex_plus | apply ex_drew | apply ex_drewN))) (by omega) (by omega))).mono ?_; rintro e w' ⟨rfl, nx, rfl⟩; rw [he])
        go_roundw
        case rel => exact ⟨k + 1, by omega, by go_num, upto_succ hs1 (by rw [hpep, hpeq]; exact he), (by with_reducible repeat (first | exact ex_refl _ | exact ex_more | apply ex_alloc | apply ex_plus | apply ex_drew | apply ex_drewN))⟩
        case measure => simp [intOf]; omega
    · have ik : ¬ (k : Int) < (pn : Int) := by omega
      go_wp2
      go_ret
      exact ⟨by rw [show samePs ps qs = true from same_all (by omega) (fun j hj => hs1 j (by omega))]; rfl, by with_reducible repeat (first | exact Below.refl _ _ | apply ba | apply bp | apply bd | apply bn)⟩

end Go.Proofs.Ytkiahgkfgcjkgaa
