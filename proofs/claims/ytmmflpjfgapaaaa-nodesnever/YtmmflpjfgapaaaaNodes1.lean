/- Graphs in memory; what dioramaref06.Same and Great give. -/
import Derived.Test.YtmmflpjfgapaaaaProg
import Derived.Test.YtmmflpjfgapaaaaNodesMath
import Derived.Test.YtmmflpjfgapaaaaArena5
import Derived.Test.YtmmflpjfgapaaaaCopy
namespace Go.Proofs.Ytmmflpjfgapaaaa
open Go.RowKit Go.ChangeShapes Go.WideShapes Go.ChangeAt
set_option linter.unusedSimpArgs false
set_option linter.unusedVariables false
attribute [local go_sem] plus_size plus_drew dn_set dn_alloc dn_plus plus_dn cell_plus frozen_plus set_plus cell_alloc frozen_alloc set_alloc

/-- a row's header -/
structure RH where
  ao : Option Addr
  n : Nat
  cap : Nat
def dRH : RH := ⟨none, 0, 0⟩
def fR (h : RH) : List Value := [.slice h.ao h.n h.cap]
theorem fR_c : ∀ x, (fR x).length = 1 := fun _ => rfl
theorem fR_1 : ∀ x, ∀ u ∈ fR x, u.oneCell' = true := by intro x u hu; simp only [fR, List.mem_cons, List.not_mem_nil, or_false] at hu; subst hu; rfl
theorem kinR : Kin Try.prog 25 36 1 24 := ⟨Try.underlying25, info_parts' (z := .slice none 0 0) (by kernel_rfl) rfl, by decide⟩
theorem cellR {w : World} {g off n k : Nat} {l : List RH} (hl : l.length = n) (h : ∀ j u, (l.flatMap fR)[j]? = some u → w.cell? ⟨g, off + j, none⟩ = some u) (hk : k < n) : w.cell? ⟨g, off + k, none⟩ = some (.slice (nth dRH l k).ao (nth dRH l k).n (nth dRH l k).cap) := by
  have h0 := cell_nth (d := dRH) hl fR_c h k 0 _ hk (by decide) rfl
  rwa [Nat.mul_one, Nat.add_zero] at h0

/-- a graph lies in memory; it is not great -/
structure GrAt (w : World) (ao : Option Addr) (n : Nat) (ko : Option Addr) (kn : Nat) (hs : List RH) (g : Gr) : Prop where
  sl : Lay fS w ao n g.sl
  kh : Lay fR w ko kn hs
  len : hs.length = g.ks.length
  row : ∀ k, k < hs.length → Lay f2 w (nth dRH hs k).ao (nth dRH hs k).n (nth [] g.ks k)
  n1 : n ≤ 1000
  n2 : kn ≤ 1000
  n3 : ∀ k, k < hs.length → (nth dRH hs k).n ≤ 1000
  n4 : ∀ k, k < hs.length → (nth dRH hs k).n ≤ (nth dRH hs k).cap
  n5 : ∀ k, k < hs.length → (nth dRH hs k).ao = none → (nth dRH hs k).n = 0 ∧ (nth dRH hs k).cap = 0
theorem GrAt.ex {w w' : World} {ao : Option Addr} {n : Nat} {ko : Option Addr} {kn : Nat} {hs : List RH} {g : Gr} (h : GrAt w ao n ko kn hs g) (hw : ∃ x, w' = plus w x) : GrAt w' ao n ko kn hs g :=
  ⟨h.sl.ex hw, h.kh.ex hw, h.len, fun k hk => (h.row k hk).ex hw, h.n1, h.n2, h.n3, h.n4, h.n5⟩
theorem GrAt.kl {w : World} {ao : Option Addr} {n : Nat} {ko : Option Addr} {kn : Nat} {hs : List RH} {g : Gr} (h : GrAt w ao n ko kn hs g) : g.ks.length = kn := h.len.symm.trans h.kh.len
theorem GrAt.rl {w : World} {ao : Option Addr} {n : Nat} {ko : Option Addr} {kn : Nat} {hs : List RH} {g : Gr} (h : GrAt w ao n ko kn hs g) {k : Nat} (hk : k < kn) : (nth [] g.ks k).length = (nth dRH hs k).n := (h.row k (by rw [h.kh.len]; exact hk)).len

def sameK (a b : List (List (Int × Int))) : Bool := sameL same2 [] a b
def sameG (a b : Gr) : Bool := sameS a.sl b.sl && sameK a.ks b.ks
theorem sameG_refl (a : Gr) : sameG a a = true := by
  rw [sameG, show sameS a.sl a.sl = true from same_refl eqS_refl _, show sameK a.ks a.ks = true from same_refl (fun r => same_refl eq2_refl r) _]
  rfl

theorem sameH_is {w : World} {ao ao2 : Option Addr} {n n2 cap cap2 : Nat} {l l2 : List (Int × Int)} {b : Bool} (h : same2 l l2 = b) (hl : Lay f2 w ao n l) (hl2 : Lay f2 w ao2 n2 l2) (hn : n ≤ 10000) (hn2 : n2 ≤ 10000) :
    Calls Try.prog 33 #[.slice ao n cap, .slice ao2 n2 cap2] w fun e w' => e = .returned (.bool b) ∧ Below w.heap.size w w' := by
  subst h
  exact sameH_calls ao ao2 n n2 cap cap2 l l2 w hl hl2 hn hn2

set_option maxRecDepth 100000 in
set_option maxHeartbeats 4000000 in
theorem gsame_calls (ao : Option Addr) (n cap : Nat) (ko : Option Addr) (kn kcap : Nat) (hs : List RH) (a : Gr) (ao2 : Option Addr) (n2 cap2 : Nat) (ko2 : Option Addr) (kn2 kcap2 : Nat) (hs2 : List RH) (b : Gr) (w : World) (hG : GrAt w ao n ko kn hs a) (hG2 : GrAt w ao2 n2 ko2 kn2 hs2 b) :
    Calls Try.prog 24 #[.agg #[.slice ao n cap, .slice ko kn kcap], .agg #[.slice ao2 n2 cap2, .slice ko2 kn2 kcap2]] w fun e w' => e = .returned (.bool (sameG a b)) ∧ Below w.heap.size w w' := by
  have hlen := hG.kl
  have hlen2 := hG2.kl
  have b1 := hG.n1
  have b2 := hG2.n1
  have b3 := hG.n2
  have b4 := hG2.n2
  cases hS : sameS a.sl b.sl
  · rw [show sameG a b = false by rw [sameG, hS]; rfl]
    go_enter Try.func24, Try.ntmps24
    go_wp2_with (go_at_call 57; refine (plus_post (rsameA_calls _ _ _ _ _ _ a.sl b.sl _ (hG.sl.ex (by with_reducible repeat (first | exact ex_refl _ | exact ex_more | apply ex_alloc | apply ex_plus | apply ex_drew | apply ex_drewN))) (hG2.sl.ex (by with_reducible repeat (first | exact ex_refl _ | exact ex_more | apply ex_alloc | apply ex_plus | apply ex_drew | apply ex_drewN))) (by omega) (by omega))).mono ?_; rintro e w' ⟨rfl, nx, rfl⟩; rw [hS])
    go_ret
    exact ⟨rfl, by with_reducible repeat (first | exact Below.refl _ _ | apply ba | apply bp | apply bd | apply bn)⟩
  rw [show sameG a b = sameK a.ks b.ks by rw [sameG, hS]; rfl]
  by_cases hne : kn = kn2
  rotate_left
  · rw [show sameK a.ks b.ks = false from same_len (by omega)]
    have ine : ¬ (kn : Int) = (kn2 : Int) := by omega
    have dne : ((kn : Int) == (kn2 : Int)) = false := by rw [beq_eq_false_iff_ne]; omega
    go_enter Try.func24, Try.ntmps24
    go_wp2_with (go_at_call 57; refine (plus_post (rsameA_calls _ _ _ _ _ _ a.sl b.sl _ (hG.sl.ex (by with_reducible repeat (first | exact ex_refl _ | exact ex_more | apply ex_alloc | apply ex_plus | apply ex_drew | apply ex_drewN))) (hG2.sl.ex (by with_reducible repeat (first | exact ex_refl _ | exact ex_more | apply ex_alloc | apply ex_plus | apply ex_drew | apply ex_drewN))) (by omega) (by omega))).mono ?_; rintro e w' ⟨rfl, nx, rfl⟩; rw [hS])
    go_ret
    exact ⟨rfl, by with_reducible repeat (first | exact Below.refl _ _ | apply ba | apply bp | apply bd | apply bn)⟩
  subst hne
  go_enter Try.func24, Try.ntmps24
  go_wp2_with (go_at_call 57; refine (plus_post (rsameA_calls _ _ _ _ _ _ a.sl b.sl _ (hG.sl.ex (by with_reducible repeat (first | exact ex_refl _ | exact ex_more | apply ex_alloc | apply ex_plus | apply ex_drew | apply ex_drewN))) (hG2.sl.ex (by with_reducible repeat (first | exact ex_refl _ | exact ex_more | apply ex_alloc | apply ex_plus | apply ex_drew | apply ex_drewN))) (by omega) (by omega))).mono ?_; rintro e w' ⟨rfl, nx, rfl⟩; rw [hS])
  go_loopw [5] (fun i wr => ∃ k : Nat, k ≤ kn ∧ i = .int .i64 k ∧ (∀ j, j < k → same2 (nth [] a.ks j) (nth [] b.ks j) = true) ∧ ∃ x, wr = plus (plus ((w.alloc (.cells #[.slice ao n cap, .slice ko kn kcap] 27)).alloc (.cells #[.slice ao2 n2 cap2, .slice ko2 kn kcap2] 27)) nx) x) (fun i _ => kn - (intOf i).toNat)
  case atStart => exact ⟨0, Nat.zero_le _, rfl, fun j hj => by omega, (by with_reducible repeat (first | exact ex_refl _ | exact ex_more | apply ex_alloc | apply ex_plus | apply ex_drew | apply ex_drewN))⟩
  case round =>
    obtain ⟨k, hk, rfl, hs', x, rfl⟩ := hrel
    by_cases hkl : k < kn
    · have ik : (k : Int) < (kn : Int) := by omega
      obtain ⟨g1, o1, rfl, hg1, hc1⟩ := hG.kh.some (by omega)
      obtain ⟨g2, o2, rfl, hg2, hc2⟩ := hG2.kh.some (by omega)
      have c1 := cellR hG.kh.len hc1 hkl
      have c2 := cellR hG2.kh.len hc2 hkl
      have r1 := hG.row k (by rw [hG.kh.len]; exact hkl)
      have r2 := hG2.row k (by rw [hG2.kh.len]; exact hkl)
      have m1 := hG.n3 k (by rw [hG.kh.len]; exact hkl)
      have m2 := hG2.n3 k (by rw [hG2.kh.len]; exact hkl)
      cases hq : same2 (nth [] a.ks k) (nth [] b.ks k)
      · go_wp2
        refine region_plus (by kernel_rfl) (by kernel_rfl) ?_
        (repeat (go_big_quiet_step ((go_at_call 33; exact plus_of (sameH_is hq (r1.ex (by with_reducible repeat (first | exact ex_refl _ | exact ex_more | apply ex_alloc | apply ex_plus | apply ex_drew | apply ex_drewN))) (r2.ex (by with_reducible repeat (first | exact ex_refl _ | exact ex_more | apply ex_alloc | apply ex_plus | apply ex_drew | apply ex_drewN))) (by omega) (by omega))))))
        refine wpQuiet_nil ?_
        rintro _ ⟨x2, rfl⟩
        go_wp2
        go_ret
        exact ⟨by rw [show sameK a.ks b.ks = false from same_not (k := k) (by omega) hq]; rfl, by with_reducible repeat (first | exact Below.refl _ _ | apply ba | apply bp | apply bd | apply bn)⟩
      · go_wp2
        refine region_plus (by kernel_rfl) (by kernel_rfl) ?_
        (repeat (go_big_quiet_step ((go_at_call 33; exact plus_of (sameH_is hq (r1.ex (by with_reducible repeat (first | exact ex_refl _ | exact ex_more | apply ex_alloc | apply ex_plus | apply ex_drew | apply ex_drewN))) (r2.ex (by with_reducible repeat (first | exact ex_refl _ | exact ex_more | apply ex_alloc | apply ex_plus | apply ex_drew | apply ex_drewN))) (by omega) (by omega))))))
        refine wpQuiet_nil ?_
        rintro _ ⟨x2, rfl⟩
        go_wp2
        go_roundw
        case rel => exact ⟨k + 1, by omega, by go_num, upto_succ hs' hq, (by with_reducible repeat (first | exact ex_refl _ | exact ex_more | apply ex_alloc | apply ex_plus | apply ex_drew | apply ex_drewN))⟩
        case measure => simp [intOf]; omega
    · have ik : ¬ (k : Int) < (kn : Int) := by omega
      go_wp2
      go_ret
      exact ⟨by rw [show sameK a.ks b.ks = true from same_all (by omega) (fun j hj => hs' j (by omega))]; rfl, by with_reducible repeat (first | exact Below.refl _ _ | apply ba | apply bp | apply bd | apply bn)⟩

/-- the lengths of the first k rows together -/
def sumTo (hs : List RH) : Nat → Nat
  | 0 => 0
  | k + 1 => sumTo hs k + (nth dRH hs k).n
theorem sum_le (hs : List RH) (k : Nat) : ∀ j, sumTo hs k ≤ sumTo hs (k + j)
  | 0 => Nat.le_refl _
  | j + 1 => Nat.le_trans (sum_le hs k j) (Nat.le_add_right _ _)
theorem sum_at (hs : List RH) {k n : Nat} (hk : k < n) : (nth dRH hs k).n ≤ sumTo hs n := by
  have h1 := sum_le hs (k + 1) (n - (k + 1))
  rw [show k + 1 + (n - (k + 1)) = n by omega] at h1
  have : sumTo hs (k + 1) = sumTo hs k + (nth dRH hs k).n := rfl
  omega
def greatB (n kn : Nat) (hs : List RH) : Bool := decide (200 < n) || (decide (200 < kn) || decide (400 < sumTo hs kn))
theorem great_no {n kn : Nat} {hs : List RH} (h : greatB n kn hs = false) : n ≤ 200 ∧ kn ≤ 200 ∧ sumTo hs kn ≤ 400 := by
  simp only [greatB, Bool.or_eq_false_iff, decide_eq_false_iff_not] at h
  omega

set_option maxHeartbeats 4000000 in
theorem great_calls (ao : Option Addr) (n cap : Nat) (ko : Option Addr) (kn kcap : Nat) (hs : List RH) (w : World) (hk : Lay fR w ko kn hs) (hn : n ≤ 9223372036854775807) (hkn : kn ≤ 9223372036854775807) (hr : ∀ k, k < kn → (nth dRH hs k).n ≤ 8796093022208) :
    Calls Try.prog 16 #[.agg #[.slice ao n cap, .slice ko kn kcap]] w fun e w' => e = .returned (.bool (greatB n kn hs)) ∧ Below w.heap.size w w' := by
  by_cases h1 : 200 < n
  · rw [show greatB n kn hs = true by simp [greatB, h1]]
    have i1 : (200 : Int) < (n : Int) := by omega
    go_enter Try.func16, Try.ntmps16
    go_wp2
    go_ret
    exact ⟨rfl, by with_reducible repeat (first | exact Below.refl _ _ | apply ba | apply bp | apply bd | apply bn)⟩
  have i1 : ¬ (200 : Int) < (n : Int) := by omega
  have d1 := decide_eq_false i1
  by_cases h2 : 200 < kn
  · rw [show greatB n kn hs = true by simp [greatB, h2]]
    have i2 : (200 : Int) < (kn : Int) := by omega
    go_enter Try.func16, Try.ntmps16
    go_wp2
    go_ret
    exact ⟨rfl, by with_reducible repeat (first | exact Below.refl _ _ | apply ba | apply bp | apply bd | apply bn)⟩
  have i2 : ¬ (200 : Int) < (kn : Int) := by omega
  have d2 := decide_eq_false i2
  go_enter Try.func16, Try.ntmps16
  go_wp2
  go_loopw [3, 4] (fun m i wr => ∃ k : Nat, k ≤ kn ∧ m = .int .i64 (sumTo hs k) ∧ i = .int .i64 k ∧ sumTo hs k ≤ 400 ∧ ∃ x, wr = plus (w.alloc (.cells #[.slice ao n cap, .slice ko kn kcap] 27)) x) (fun _ i _ => kn - (intOf i).toNat)
  case atStart => exact ⟨0, Nat.zero_le _, rfl, rfl, by simp [sumTo], (by with_reducible repeat (first | exact ex_refl _ | exact ex_more | apply ex_alloc | apply ex_plus | apply ex_drew | apply ex_drewN))⟩
  case round =>
    obtain ⟨k, hk', rfl, rfl, hs', x, rfl⟩ := hrel
    by_cases hkl : k < kn
    · have ik : (k : Int) < (kn : Int) := by omega
      obtain ⟨g1, o1, rfl, hg1, hc1⟩ := hk.some (by omega)
      have c1 := cellR hk.len hc1 hkl
      have hrk := hr k hkl
      have hS : sumTo hs (k + 1) = sumTo hs k + (nth dRH hs k).n := rfl
      have iw : IntKind.i64.wrap ((sumTo hs k : Int) + ((nth dRH hs k).n : Int)) = (sumTo hs k : Int) + ((nth dRH hs k).n : Int) := wrap_le (by omega)
      by_cases h3 : 400 < sumTo hs (k + 1)
      · have i3 : (400 : Int) < (sumTo hs k : Int) + ((nth dRH hs k).n : Int) := by omega
        have ht : greatB n kn hs = true := by
          have := sum_le hs (k + 1) (kn - (k + 1))
          rw [show k + 1 + (kn - (k + 1)) = kn by omega] at this
          simp [greatB]
          omega
        go_wp2
        go_ret
        exact ⟨by first | rfl | (rw [ht]; rfl), by with_reducible repeat (first | exact Below.refl _ _ | apply ba | apply bp | apply bd | apply bn)⟩
      · have i3 : ¬ (400 : Int) < (sumTo hs k : Int) + ((nth dRH hs k).n : Int) := by omega
        have d3 := decide_eq_false i3
        go_wp2
        go_roundw
        case rel => exact ⟨k + 1, by omega, by rw [hS]; go_num, by go_num, by omega, (by with_reducible repeat (first | exact ex_refl _ | exact ex_more | apply ex_alloc | apply ex_plus | apply ex_drew | apply ex_drewN))⟩
        case measure => simp [intOf]; omega
    · have ik : ¬ (k : Int) < (kn : Int) := by omega
      obtain rfl : k = kn := by omega
      have hf : greatB n k hs = false := by
        simp only [greatB, Bool.or_eq_false_iff, decide_eq_false_iff_not]
        omega
      go_wp2
      go_ret
      exact ⟨by first | rfl | (rw [hf]; rfl), by with_reducible repeat (first | exact Below.refl _ _ | apply ba | apply bp | apply bd | apply bn)⟩

end Go.Proofs.Ytmmflpjfgapaaaa
