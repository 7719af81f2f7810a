/- What dioramalaw06.three and alive give. -/
import Derived.Test.YtmmflpjfgapaaaaNodesL
import Derived.BigRegion
namespace Go.Proofs.Ytmmflpjfgapaaaa
open Go.RowKit Go.ChangeShapes Go.WideShapes Go.ChangeAt
set_option linter.unusedSimpArgs false
set_option linter.unusedVariables false
attribute [local go_sem] plus_size plus_drew dn_set dn_alloc dn_plus plus_dn cell_plus frozen_plus set_plus cell_alloc frozen_alloc set_alloc

theorem ex_size {w w' : World} (h : ∃ y, w' = plus w y) : w.heap.size ≤ w'.heap.size := by
  obtain ⟨y, rfl⟩ := h
  rw [plus_size]
  omega
/-- k nodes without children -/
def gk (k : Nat) : Gr := ⟨List.replicate k ⟨1, true⟩, List.replicate k []⟩
theorem few_gk (k : Nat) : Few (gk k) k := ⟨by simp [gk], by simp [gk], fun j => by
  by_cases h : j < k
  · simp [gk, nth, h]
  · rw [nth_ge (by simp [gk]; omega)]; simp⟩
section
variable {ao ko : Option Addr} {n cap kn kcap n' kn' : Nat} {hs : List RH} {gr r : Gr} {s g x1 x2 pos er : Int} {w : World}
theorem nmake_is (hr : makeRes gr = r) (hs' : makeS gr = s) (hg : makeH gr = g) (he : makeGErr gr = er) (h1 : r.sl.length = n') (h2 : r.ks.length = kn') (hG : GrAt w ao n ko kn hs gr) :
    Calls Try.prog 18 #[.agg #[.slice ao n cap, .slice ko kn kcap]] w fun e w' => ∃ ao' cap' ko' kcap' hs', e = .returned (.tuple #[.agg #[.slice ao' n' cap', .slice ko' kn' kcap'], .agg #[.int .i64 s, .int .i64 g], .int .i64 er]) ∧ (∃ y, w' = plus w y) ∧ GrOwn w w' ao' n' cap' ko' kn' kcap' hs' r := by
  subst hr hs' hg he h1 h2
  exact nmake_calls ao n cap ko kn kcap hs gr w hG
theorem nlink_is (hr : linkRes gr (s, g) (x1, x2) pos = r) (he : linkErr gr (s, g) (x1, x2) pos = er) (h1 : r.sl.length = n') (h2 : r.ks.length = kn') (hG : GrAt w ao n ko kn hs gr) :
    Calls Try.prog 10 #[.agg #[.slice ao n cap, .slice ko kn kcap], .agg #[.int .i64 s, .int .i64 g], .agg #[.int .i64 x1, .int .i64 x2], .int .i64 pos] w fun e w' => ∃ ao' cap' ko' kcap' hs', e = .returned (.tuple #[.agg #[.slice ao' n' cap', .slice ko' kn' kcap'], .int .i64 er]) ∧ (∃ y, w' = plus w y) ∧ GrOwn w w' ao' n' cap' ko' kn' kcap' hs' r := by
  subst hr he h1 h2
  exact nlink_calls ao n cap ko kn kcap hs gr s g x1 x2 pos w hG
end
theorem mk0 : makeRes (gk 0) = gk 1 := by kernel_rfl
theorem mk1 : makeRes (gk 1) = gk 2 := by kernel_rfl
theorem mk2 : makeRes (gk 2) = gk 3 := by kernel_rfl
/-- A has the child B; then twice -/
def g31 : Gr := ⟨[⟨1, true⟩, ⟨1, true⟩, ⟨1, true⟩], [[(1, 1)], [], []]⟩
def g32 : Gr := ⟨[⟨1, true⟩, ⟨1, true⟩, ⟨1, true⟩], [[(1, 1), (1, 1)], [], []]⟩
/-- the chapter's three nodes -/
def g3 : Gr := ⟨[⟨1, true⟩, ⟨1, true⟩, ⟨1, true⟩], [[(1, 1), (1, 1)], [(2, 1)], []]⟩
theorem ln1 : linkRes (gk 3) (0, 1) (1, 1) 0 = g31 := by kernel_rfl
theorem ln2 : linkRes g31 (0, 1) (1, 1) 1 = g32 := by kernel_rfl
theorem ln3 : linkRes g32 (1, 1) (2, 1) 0 = g3 := by kernel_rfl
/-- what is known of three's memory -/
structure Th (w wr : World) (k : Nat) (hv : Array Value) (ao : Option Addr) (cap : Nat) (ko : Option Addr) (kcap : Nat) (hs : List RH) : Prop where
  ex : ∃ y, wr = plus w y
  r : wr.heap[w.heap.size]? = some (.cells #[.slice none 0 0, .slice none 0 0] 27)
  s : wr.heap[w.heap.size + 1]? = some (.cells #[.int .i64 0, .int .i64 0, .int .i64 0, .int .i64 0, .int .i64 0, .int .i64 0] 30)
  g : wr.heap[w.heap.size + 1 + 1]? = some (.cells #[.slice ao k cap, .slice ko k kcap] 27)
  h : wr.heap[w.heap.size + 1 + 1 + 1]? = some (.cells hv 30)
  o : GrOwn w wr ao k cap ko k kcap hs (gk k)
def hvs : Nat → Array Value
  | 0 => #[.int .i64 0, .int .i64 0, .int .i64 0, .int .i64 0, .int .i64 0, .int .i64 0]
  | 1 => #[.int .i64 0, .int .i64 1, .int .i64 0, .int .i64 0, .int .i64 0, .int .i64 0]
  | 2 => #[.int .i64 0, .int .i64 1, .int .i64 1, .int .i64 1, .int .i64 0, .int .i64 0]
  | _ => #[.int .i64 0, .int .i64 1, .int .i64 1, .int .i64 1, .int .i64 2, .int .i64 1]

set_option maxRecDepth 100000 in
set_option maxHeartbeats 8000000 in
theorem three_calls (w : World) : Calls Try.prog 9 #[] w fun e w' => ∃ ao cap ko kcap hs, e = .returned (.tuple #[.agg #[.slice ao 3 cap, .slice ko 3 kcap], .agg #[.int .i64 0, .int .i64 1, .int .i64 1, .int .i64 1, .int .i64 2, .int .i64 1], .bool true]) ∧ (∃ y, w' = plus w y) ∧ GrOwn w w' ao 3 cap ko 3 kcap hs g3 := by
  go_enter Try.func9, Try.ntmps9
  go_wp2
  go_loopw [5, 6] (fun b_ i_ wr => ∃ (k : Nat) (ao : Option Addr) (cap : Nat) (ko : Option Addr) (kcap : Nat) (hs : List RH), k ≤ 3 ∧ b_ = .bool true ∧ i_ = .int .i64 k ∧ Th w wr k (hvs k) ao cap ko kcap hs) (fun _ i_ _ => 3 - (intOf i_).toNat)
  case atStart => exact ⟨0, none, 0, none, 0, [], by decide, rfl, rfl, ⟨(by with_reducible repeat (first | exact ex_refl _ | exact ex_more | apply ex_alloc | apply ex_plus | apply ex_drew | apply ex_drewN)), blk_ex (w := w.alloc (.cells #[.slice none 0 0, .slice none 0 0] 27)) (by with_reducible repeat (first | exact ex_refl _ | exact ex_more | apply ex_alloc | apply ex_plus | apply ex_drew | apply ex_drewN)) (by rw [blk_alloc, if_pos rfl]), blk_ex (w := (w.alloc (.cells #[.slice none 0 0, .slice none 0 0] 27)).alloc (.cells #[.int .i64 0, .int .i64 0, .int .i64 0, .int .i64 0, .int .i64 0, .int .i64 0] 30)) (by with_reducible repeat (first | exact ex_refl _ | exact ex_more | apply ex_alloc | apply ex_plus | apply ex_drew | apply ex_drewN)) (by rw [blk_alloc, if_pos (by simp)]), blk_ex (w := ((w.alloc (.cells #[.slice none 0 0, .slice none 0 0] 27)).alloc (.cells #[.int .i64 0, .int .i64 0, .int .i64 0, .int .i64 0, .int .i64 0, .int .i64 0] 30)).alloc (.cells #[.slice none 0 0, .slice none 0 0] 27)) (by with_reducible repeat (first | exact ex_refl _ | exact ex_more | apply ex_alloc | apply ex_plus | apply ex_drew | apply ex_drewN)) (by rw [blk_alloc, if_pos (by simp)]), (by rw [blk_alloc, if_pos (by simp)]; rfl), own_zero⟩⟩
  case round =>
    obtain ⟨k, ao, cap, ko, kcap, hs, hk, rfl, rfl, hT⟩ := hrel
    have hK : k = 0 ∨ k = 1 ∨ k = 2 ∨ k = 3 := by omega
    rcases hK with rfl | rfl | rfl | rfl
    · have c0 := cell_blk (i := 0) hT.g rfl
      have c1 := cell_blk (i := 1) hT.g rfl
      have lG := blk_lt hT.g
      have lH := blk_lt hT.h
      go_upto_region 9 with (go_at_call 18; refine (nmake_is (r := gk 1) (s := 0) (g := 1) (er := 0) (n' := 1) (kn' := 1) mk0 (by kernel_rfl) (by kernel_rfl) (by kernel_rfl) rfl rfl ((hT.o.at (by decide) (by decide) (fun k' _ => Nat.le_trans ((few_gk 0).r k') (by decide))).ex (by with_reducible repeat (first | exact ex_refl _ | exact ex_more | apply ex_alloc | apply ex_plus | apply ex_drew | apply ex_drewN)))).mono ?_; rintro e w1 ⟨a1, c1', k1, kc1, hs1, rfl, hw1, o1⟩)
      have hlt : w.heap.size + 1 + 1 + 1 < w1.heap.size := Nat.lt_of_lt_of_le lH (ex_size hw1)
      have bR := blk_ex (ex_alloc (o := (.cells #[.int .i64 0, .int .i64 1] 29)) (ex_alloc (o := (.cells #[.slice a1 1 c1', .slice k1 1 kc1] 27)) hw1)) hT.r
      have bS := blk_ex (ex_alloc (o := (.cells #[.int .i64 0, .int .i64 1] 29)) (ex_alloc (o := (.cells #[.slice a1 1 c1', .slice k1 1 kc1] 27)) hw1)) hT.s
      have bG := blk_ex (ex_alloc (o := (.cells #[.int .i64 0, .int .i64 1] 29)) (ex_alloc (o := (.cells #[.slice a1 1 c1', .slice k1 1 kc1] 27)) hw1)) hT.g
      have bH := blk_ex (ex_alloc (o := (.cells #[.int .i64 0, .int .i64 1] 29)) (ex_alloc (o := (.cells #[.slice a1 1 c1', .slice k1 1 kc1] 27)) hw1)) hT.h
      have bX : ((w1.alloc (.cells #[.slice a1 1 c1', .slice k1 1 kc1] 27)).alloc (.cells #[.int .i64 0, .int .i64 1] 29)).heap[w1.heap.size]? = some (.cells #[.slice a1 1 c1', .slice k1 1 kc1] 27) := by rw [blk_alloc, if_neg (by simp), blk_alloc, if_pos rfl]
      have bY : ((w1.alloc (.cells #[.slice a1 1 c1', .slice k1 1 kc1] 27)).alloc (.cells #[.int .i64 0, .int .i64 1] 29)).heap[w1.heap.size + 1]? = some (.cells #[.int .i64 0, .int .i64 1] 29) := by rw [blk_alloc, if_pos (by simp)]
      have oX := (o1.ex (ex_alloc (o := (.cells #[.int .i64 0, .int .i64 1] 29)) (ex_alloc (o := (.cells #[.slice a1 1 c1', .slice k1 1 kc1] 27)) (ex_refl w1)))).base (T' := w) (ex_size hT.ex)
      have hx1 : ∃ y, ((w1.alloc (.cells #[.slice a1 1 c1', .slice k1 1 kc1] 27)).alloc (.cells #[.int .i64 0, .int .i64 1] 29)) = plus w y := ex_alloc (ex_alloc (ex_on hw1 hT.ex))
      clear o1 hT c0 c1
      generalize ((w1.alloc (.cells #[.slice a1 1 c1', .slice k1 1 kc1] 27)).alloc (.cells #[.int .i64 0, .int .i64 1] 29)) = v1 at *
      have d0 := cell_blk (i := 0) bX rfl
      have d1 := cell_blk (i := 1) bX rfl
      have z0 := frozen_blk (i := 0) bG
      have z1 := frozen_blk (i := 1) bG
      have m0 := cell_blk (i := 0) bG rfl
      have m1 := cell_blk (i := 1) bG rfl
      have lX := blk_lt bX
      have lY := blk_lt bY
      go_upto_region 10 with fail
      have bR2 := (blk_set_ne (i := 1) (u := .slice k1 1 kc1) (show w.heap.size + 1 + 1 ≠ w.heap.size by omega)).trans ((blk_set_ne (i := 0) (u := .slice a1 1 c1') (show w.heap.size + 1 + 1 ≠ w.heap.size by omega)).trans bR)
      have bS2 := (blk_set_ne (i := 1) (u := .slice k1 1 kc1) (show w.heap.size + 1 + 1 ≠ w.heap.size + 1 by omega)).trans ((blk_set_ne (i := 0) (u := .slice a1 1 c1') (show w.heap.size + 1 + 1 ≠ w.heap.size + 1 by omega)).trans bS)
      have bH2 := (blk_set_ne (i := 1) (u := .slice k1 1 kc1) (show w.heap.size + 1 + 1 ≠ w.heap.size + 1 + 1 + 1 by omega)).trans ((blk_set_ne (i := 0) (u := .slice a1 1 c1') (show w.heap.size + 1 + 1 ≠ w.heap.size + 1 + 1 + 1 by omega)).trans bH)
      have bY2 := (blk_set_ne (i := 1) (u := .slice k1 1 kc1) (show w.heap.size + 1 + 1 ≠ w1.heap.size + 1 by omega)).trans ((blk_set_ne (i := 0) (u := .slice a1 1 c1') (show w.heap.size + 1 + 1 ≠ w1.heap.size + 1 by omega)).trans bY)
      have bG1 := blk_set_eq (i := 0) (u := .slice a1 1 c1') bG
      have bG2 : ((v1.setCell ⟨w.heap.size + 1 + 1, 0, none⟩ (.slice a1 1 c1')).setCell ⟨w.heap.size + 1 + 1, 1, none⟩ (.slice k1 1 kc1)).heap[w.heap.size + 1 + 1]? = some (.cells #[.slice a1 1 c1', .slice k1 1 kc1] 27) := blk_set_eq (i := 1) (u := .slice k1 1 kc1) bG1
      have oX2 := (oX.set_other (i := 0) (u := .slice a1 1 c1') bG (by decide) (by decide) (by decide)).set_other (i := 1) (u := .slice k1 1 kc1) bG1 (by decide) (by decide) (by decide)
      have hx2 : ∃ y, ((v1.setCell ⟨w.heap.size + 1 + 1, 0, none⟩ (.slice a1 1 c1')).setCell ⟨w.heap.size + 1 + 1, 1, none⟩ (.slice k1 1 kc1)) = plus w y := ex_set_new (ex_set_new hx1 (by omega)) (by omega)
      clear d0 d1 z0 z1 m0 m1 lX lY bR bS bG bH bX bY bG1 oX hx1
      generalize ((v1.setCell ⟨w.heap.size + 1 + 1, 0, none⟩ (.slice a1 1 c1')).setCell ⟨w.heap.size + 1 + 1, 1, none⟩ (.slice k1 1 kc1)) = v2 at *
      have d0 := cell_blk (i := 0) bY2 rfl
      have d1 := cell_blk (i := 1) bY2 rfl
      have z0 := frozen_blk (i := 0) bH2
      have z1 := frozen_blk (i := 1) bH2
      have m0 := cell_blk (i := 0) bH2 rfl
      have m1 := cell_blk (i := 1) bH2 rfl
      have lY := blk_lt bY2
      have lH2 := blk_lt bH2
      go_wp2
      go_roundw
      case rel => exact ⟨1, _, _, _, _, _, by decide, rfl, by go_num, ⟨ex_set_new (ex_set_new hx2 (by omega)) (by omega), (blk_set_ne (by omega)).trans ((blk_set_ne (by omega)).trans bR2), (blk_set_ne (by omega)).trans ((blk_set_ne (by omega)).trans bS2), (blk_set_ne (by omega)).trans ((blk_set_ne (by omega)).trans bG2), blk_set_eq (blk_set_eq bH2), (oX2.set_other bH2 (by decide) (by decide) (by decide)).set_other (blk_set_eq bH2) (by decide) (by decide) (by decide)⟩⟩
      case measure => simp [intOf]
    · have c0 := cell_blk (i := 0) hT.g rfl
      have c1 := cell_blk (i := 1) hT.g rfl
      have lG := blk_lt hT.g
      have lH := blk_lt hT.h
      go_upto_region 9 with (go_at_call 18; refine (nmake_is (r := gk 2) (s := 1) (g := 1) (er := 0) (n' := 2) (kn' := 2) mk1 (by kernel_rfl) (by kernel_rfl) (by kernel_rfl) rfl rfl ((hT.o.at (by decide) (by decide) (fun k' _ => Nat.le_trans ((few_gk 1).r k') (by decide))).ex (by with_reducible repeat (first | exact ex_refl _ | exact ex_more | apply ex_alloc | apply ex_plus | apply ex_drew | apply ex_drewN)))).mono ?_; rintro e w1 ⟨a1, c1', k1, kc1, hs1, rfl, hw1, o1⟩)
      have hlt : w.heap.size + 1 + 1 + 1 < w1.heap.size := Nat.lt_of_lt_of_le lH (ex_size hw1)
      have bR := blk_ex (ex_alloc (o := (.cells #[.int .i64 1, .int .i64 1] 29)) (ex_alloc (o := (.cells #[.slice a1 2 c1', .slice k1 2 kc1] 27)) hw1)) hT.r
      have bS := blk_ex (ex_alloc (o := (.cells #[.int .i64 1, .int .i64 1] 29)) (ex_alloc (o := (.cells #[.slice a1 2 c1', .slice k1 2 kc1] 27)) hw1)) hT.s
      have bG := blk_ex (ex_alloc (o := (.cells #[.int .i64 1, .int .i64 1] 29)) (ex_alloc (o := (.cells #[.slice a1 2 c1', .slice k1 2 kc1] 27)) hw1)) hT.g
      have bH := blk_ex (ex_alloc (o := (.cells #[.int .i64 1, .int .i64 1] 29)) (ex_alloc (o := (.cells #[.slice a1 2 c1', .slice k1 2 kc1] 27)) hw1)) hT.h
      have bX : ((w1.alloc (.cells #[.slice a1 2 c1', .slice k1 2 kc1] 27)).alloc (.cells #[.int .i64 1, .int .i64 1] 29)).heap[w1.heap.size]? = some (.cells #[.slice a1 2 c1', .slice k1 2 kc1] 27) := by rw [blk_alloc, if_neg (by simp), blk_alloc, if_pos rfl]
      have bY : ((w1.alloc (.cells #[.slice a1 2 c1', .slice k1 2 kc1] 27)).alloc (.cells #[.int .i64 1, .int .i64 1] 29)).heap[w1.heap.size + 1]? = some (.cells #[.int .i64 1, .int .i64 1] 29) := by rw [blk_alloc, if_pos (by simp)]
      have oX := (o1.ex (ex_alloc (o := (.cells #[.int .i64 1, .int .i64 1] 29)) (ex_alloc (o := (.cells #[.slice a1 2 c1', .slice k1 2 kc1] 27)) (ex_refl w1)))).base (T' := w) (ex_size hT.ex)
      have hx1 : ∃ y, ((w1.alloc (.cells #[.slice a1 2 c1', .slice k1 2 kc1] 27)).alloc (.cells #[.int .i64 1, .int .i64 1] 29)) = plus w y := ex_alloc (ex_alloc (ex_on hw1 hT.ex))
      clear o1 hT c0 c1
      generalize ((w1.alloc (.cells #[.slice a1 2 c1', .slice k1 2 kc1] 27)).alloc (.cells #[.int .i64 1, .int .i64 1] 29)) = v1 at *
      have d0 := cell_blk (i := 0) bX rfl
      have d1 := cell_blk (i := 1) bX rfl
      have z0 := frozen_blk (i := 0) bG
      have z1 := frozen_blk (i := 1) bG
      have m0 := cell_blk (i := 0) bG rfl
      have m1 := cell_blk (i := 1) bG rfl
      have lX := blk_lt bX
      have lY := blk_lt bY
      go_upto_region 10 with fail
      have bR2 := (blk_set_ne (i := 1) (u := .slice k1 2 kc1) (show w.heap.size + 1 + 1 ≠ w.heap.size by omega)).trans ((blk_set_ne (i := 0) (u := .slice a1 2 c1') (show w.heap.size + 1 + 1 ≠ w.heap.size by omega)).trans bR)
      have bS2 := (blk_set_ne (i := 1) (u := .slice k1 2 kc1) (show w.heap.size + 1 + 1 ≠ w.heap.size + 1 by omega)).trans ((blk_set_ne (i := 0) (u := .slice a1 2 c1') (show w.heap.size + 1 + 1 ≠ w.heap.size + 1 by omega)).trans bS)
      have bH2 := (blk_set_ne (i := 1) (u := .slice k1 2 kc1) (show w.heap.size + 1 + 1 ≠ w.heap.size + 1 + 1 + 1 by omega)).trans ((blk_set_ne (i := 0) (u := .slice a1 2 c1') (show w.heap.size + 1 + 1 ≠ w.heap.size + 1 + 1 + 1 by omega)).trans bH)
      have bY2 := (blk_set_ne (i := 1) (u := .slice k1 2 kc1) (show w.heap.size + 1 + 1 ≠ w1.heap.size + 1 by omega)).trans ((blk_set_ne (i := 0) (u := .slice a1 2 c1') (show w.heap.size + 1 + 1 ≠ w1.heap.size + 1 by omega)).trans bY)
      have bG1 := blk_set_eq (i := 0) (u := .slice a1 2 c1') bG
      have bG2 : ((v1.setCell ⟨w.heap.size + 1 + 1, 0, none⟩ (.slice a1 2 c1')).setCell ⟨w.heap.size + 1 + 1, 1, none⟩ (.slice k1 2 kc1)).heap[w.heap.size + 1 + 1]? = some (.cells #[.slice a1 2 c1', .slice k1 2 kc1] 27) := blk_set_eq (i := 1) (u := .slice k1 2 kc1) bG1
      have oX2 := (oX.set_other (i := 0) (u := .slice a1 2 c1') bG (by decide) (by decide) (by decide)).set_other (i := 1) (u := .slice k1 2 kc1) bG1 (by decide) (by decide) (by decide)
      have hx2 : ∃ y, ((v1.setCell ⟨w.heap.size + 1 + 1, 0, none⟩ (.slice a1 2 c1')).setCell ⟨w.heap.size + 1 + 1, 1, none⟩ (.slice k1 2 kc1)) = plus w y := ex_set_new (ex_set_new hx1 (by omega)) (by omega)
      clear d0 d1 z0 z1 m0 m1 lX lY bR bS bG bH bX bY bG1 oX hx1
      generalize ((v1.setCell ⟨w.heap.size + 1 + 1, 0, none⟩ (.slice a1 2 c1')).setCell ⟨w.heap.size + 1 + 1, 1, none⟩ (.slice k1 2 kc1)) = v2 at *
      have d0 := cell_blk (i := 0) bY2 rfl
      have d1 := cell_blk (i := 1) bY2 rfl
      have z0 := frozen_blk (i := 2) bH2
      have z1 := frozen_blk (i := 3) bH2
      have m0 := cell_blk (i := 2) bH2 rfl
      have m1 := cell_blk (i := 3) bH2 rfl
      have lY := blk_lt bY2
      have lH2 := blk_lt bH2
      go_wp2
      go_roundw
      case rel => exact ⟨2, _, _, _, _, _, by decide, rfl, by go_num, ⟨ex_set_new (ex_set_new hx2 (by omega)) (by omega), (blk_set_ne (by omega)).trans ((blk_set_ne (by omega)).trans bR2), (blk_set_ne (by omega)).trans ((blk_set_ne (by omega)).trans bS2), (blk_set_ne (by omega)).trans ((blk_set_ne (by omega)).trans bG2), blk_set_eq (blk_set_eq bH2), (oX2.set_other bH2 (by decide) (by decide) (by decide)).set_other (blk_set_eq bH2) (by decide) (by decide) (by decide)⟩⟩
      case measure => simp [intOf]
    · have c0 := cell_blk (i := 0) hT.g rfl
      have c1 := cell_blk (i := 1) hT.g rfl
      have lG := blk_lt hT.g
      have lH := blk_lt hT.h
      go_upto_region 9 with (go_at_call 18; refine (nmake_is (r := gk 3) (s := 2) (g := 1) (er := 0) (n' := 3) (kn' := 3) mk2 (by kernel_rfl) (by kernel_rfl) (by kernel_rfl) rfl rfl ((hT.o.at (by decide) (by decide) (fun k' _ => Nat.le_trans ((few_gk 2).r k') (by decide))).ex (by with_reducible repeat (first | exact ex_refl _ | exact ex_more | apply ex_alloc | apply ex_plus | apply ex_drew | apply ex_drewN)))).mono ?_; rintro e w1 ⟨a1, c1', k1, kc1, hs1, rfl, hw1, o1⟩)
      have hlt : w.heap.size + 1 + 1 + 1 < w1.heap.size := Nat.lt_of_lt_of_le lH (ex_size hw1)
      have bR := blk_ex (ex_alloc (o := (.cells #[.int .i64 2, .int .i64 1] 29)) (ex_alloc (o := (.cells #[.slice a1 3 c1', .slice k1 3 kc1] 27)) hw1)) hT.r
      have bS := blk_ex (ex_alloc (o := (.cells #[.int .i64 2, .int .i64 1] 29)) (ex_alloc (o := (.cells #[.slice a1 3 c1', .slice k1 3 kc1] 27)) hw1)) hT.s
      have bG := blk_ex (ex_alloc (o := (.cells #[.int .i64 2, .int .i64 1] 29)) (ex_alloc (o := (.cells #[.slice a1 3 c1', .slice k1 3 kc1] 27)) hw1)) hT.g
      have bH := blk_ex (ex_alloc (o := (.cells #[.int .i64 2, .int .i64 1] 29)) (ex_alloc (o := (.cells #[.slice a1 3 c1', .slice k1 3 kc1] 27)) hw1)) hT.h
      have bX : ((w1.alloc (.cells #[.slice a1 3 c1', .slice k1 3 kc1] 27)).alloc (.cells #[.int .i64 2, .int .i64 1] 29)).heap[w1.heap.size]? = some (.cells #[.slice a1 3 c1', .slice k1 3 kc1] 27) := by rw [blk_alloc, if_neg (by simp), blk_alloc, if_pos rfl]
      have bY : ((w1.alloc (.cells #[.slice a1 3 c1', .slice k1 3 kc1] 27)).alloc (.cells #[.int .i64 2, .int .i64 1] 29)).heap[w1.heap.size + 1]? = some (.cells #[.int .i64 2, .int .i64 1] 29) := by rw [blk_alloc, if_pos (by simp)]
      have oX := (o1.ex (ex_alloc (o := (.cells #[.int .i64 2, .int .i64 1] 29)) (ex_alloc (o := (.cells #[.slice a1 3 c1', .slice k1 3 kc1] 27)) (ex_refl w1)))).base (T' := w) (ex_size hT.ex)
      have hx1 : ∃ y, ((w1.alloc (.cells #[.slice a1 3 c1', .slice k1 3 kc1] 27)).alloc (.cells #[.int .i64 2, .int .i64 1] 29)) = plus w y := ex_alloc (ex_alloc (ex_on hw1 hT.ex))
      clear o1 hT c0 c1
      generalize ((w1.alloc (.cells #[.slice a1 3 c1', .slice k1 3 kc1] 27)).alloc (.cells #[.int .i64 2, .int .i64 1] 29)) = v1 at *
      have d0 := cell_blk (i := 0) bX rfl
      have d1 := cell_blk (i := 1) bX rfl
      have z0 := frozen_blk (i := 0) bG
      have z1 := frozen_blk (i := 1) bG
      have m0 := cell_blk (i := 0) bG rfl
      have m1 := cell_blk (i := 1) bG rfl
      have lX := blk_lt bX
      have lY := blk_lt bY
      go_upto_region 10 with fail
      have bR2 := (blk_set_ne (i := 1) (u := .slice k1 3 kc1) (show w.heap.size + 1 + 1 ≠ w.heap.size by omega)).trans ((blk_set_ne (i := 0) (u := .slice a1 3 c1') (show w.heap.size + 1 + 1 ≠ w.heap.size by omega)).trans bR)
      have bS2 := (blk_set_ne (i := 1) (u := .slice k1 3 kc1) (show w.heap.size + 1 + 1 ≠ w.heap.size + 1 by omega)).trans ((blk_set_ne (i := 0) (u := .slice a1 3 c1') (show w.heap.size + 1 + 1 ≠ w.heap.size + 1 by omega)).trans bS)
      have bH2 := (blk_set_ne (i := 1) (u := .slice k1 3 kc1) (show w.heap.size + 1 + 1 ≠ w.heap.size + 1 + 1 + 1 by omega)).trans ((blk_set_ne (i := 0) (u := .slice a1 3 c1') (show w.heap.size + 1 + 1 ≠ w.heap.size + 1 + 1 + 1 by omega)).trans bH)
      have bY2 := (blk_set_ne (i := 1) (u := .slice k1 3 kc1) (show w.heap.size + 1 + 1 ≠ w1.heap.size + 1 by omega)).trans ((blk_set_ne (i := 0) (u := .slice a1 3 c1') (show w.heap.size + 1 + 1 ≠ w1.heap.size + 1 by omega)).trans bY)
      have bG1 := blk_set_eq (i := 0) (u := .slice a1 3 c1') bG
      have bG2 : ((v1.setCell ⟨w.heap.size + 1 + 1, 0, none⟩ (.slice a1 3 c1')).setCell ⟨w.heap.size + 1 + 1, 1, none⟩ (.slice k1 3 kc1)).heap[w.heap.size + 1 + 1]? = some (.cells #[.slice a1 3 c1', .slice k1 3 kc1] 27) := blk_set_eq (i := 1) (u := .slice k1 3 kc1) bG1
      have oX2 := (oX.set_other (i := 0) (u := .slice a1 3 c1') bG (by decide) (by decide) (by decide)).set_other (i := 1) (u := .slice k1 3 kc1) bG1 (by decide) (by decide) (by decide)
      have hx2 : ∃ y, ((v1.setCell ⟨w.heap.size + 1 + 1, 0, none⟩ (.slice a1 3 c1')).setCell ⟨w.heap.size + 1 + 1, 1, none⟩ (.slice k1 3 kc1)) = plus w y := ex_set_new (ex_set_new hx1 (by omega)) (by omega)
      clear d0 d1 z0 z1 m0 m1 lX lY bR bS bG bH bX bY bG1 oX hx1
      generalize ((v1.setCell ⟨w.heap.size + 1 + 1, 0, none⟩ (.slice a1 3 c1')).setCell ⟨w.heap.size + 1 + 1, 1, none⟩ (.slice k1 3 kc1)) = v2 at *
      have d0 := cell_blk (i := 0) bY2 rfl
      have d1 := cell_blk (i := 1) bY2 rfl
      have z0 := frozen_blk (i := 4) bH2
      have z1 := frozen_blk (i := 5) bH2
      have m0 := cell_blk (i := 4) bH2 rfl
      have m1 := cell_blk (i := 5) bH2 rfl
      have lY := blk_lt bY2
      have lH2 := blk_lt bH2
      go_wp2
      go_roundw
      case rel => exact ⟨3, _, _, _, _, _, by decide, rfl, by go_num, ⟨ex_set_new (ex_set_new hx2 (by omega)) (by omega), (blk_set_ne (by omega)).trans ((blk_set_ne (by omega)).trans bR2), (blk_set_ne (by omega)).trans ((blk_set_ne (by omega)).trans bS2), (blk_set_ne (by omega)).trans ((blk_set_ne (by omega)).trans bG2), blk_set_eq (blk_set_eq bH2), (oX2.set_other bH2 (by decide) (by decide) (by decide)).set_other (blk_set_eq bH2) (by decide) (by decide) (by decide)⟩⟩
      case measure => simp [intOf]
    have hx0 := hT.ex
    have q0 := cell_blk (i := 0) hT.g rfl
    have q1 := cell_blk (i := 1) hT.g rfl
    have lG := blk_lt hT.g
    have lH := blk_lt hT.h
    have hG0 := hT.o.at (by decide) (by decide) (fun k' _ => Nat.le_trans ((few_gk 3).r k') (by decide))
    have lH0 : w.heap.size + 1 + 1 + 1 < wr.heap.size := blk_lt hT.h
    have bR := hT.r
    have bS := hT.s
    have bH : wr.heap[w.heap.size + 1 + 1 + 1]? = some (.cells #[.int .i64 0, .int .i64 1, .int .i64 1, .int .i64 1, .int .i64 2, .int .i64 1] 30) := hT.h
    have h0 := cell_blk (i := 0) bH rfl
    have h1 := cell_blk (i := 1) bH rfl
    have h2 := cell_blk (i := 2) bH rfl
    have h3 := cell_blk (i := 3) bH rfl
    have h4 := cell_blk (i := 4) bH rfl
    have h5 := cell_blk (i := 5) bH rfl
    clear hT
    generalize wr = v0 at *
    go_upto_region 12 with (go_at_call 10; refine (nlink_is (r := g31) (er := 0) (n' := 3) (kn' := 3) ln1 (by kernel_rfl) rfl rfl (hG0.ex (by with_reducible repeat (first | exact ex_refl _ | exact ex_more | apply ex_alloc | apply ex_plus | apply ex_drew | apply ex_drewN | (apply ex_on; assumption))))).mono ?_; rintro e w' ⟨a1, c1, k1, kc1, hs1, rfl, ⟨y1, rfl⟩, o1⟩)
    go_upto_region 13 with (go_at_call 10; refine (nlink_is (r := g32) (er := 0) (n' := 3) (kn' := 3) ln2 (by kernel_rfl) rfl rfl ((o1.at (by decide) (by decide) (by decide +kernel)).ex (by with_reducible repeat (first | exact ex_refl _ | exact ex_more | apply ex_alloc | apply ex_plus | apply ex_drew | apply ex_drewN | (apply ex_on; assumption))))).mono ?_; rintro e w' ⟨a2, c2, k2, kc2, hs2, rfl, ⟨y2, rfl⟩, o2⟩)
    go_upto_region 14 with (go_at_call 10; refine (nlink_is (r := g3) (er := 0) (n' := 3) (kn' := 3) ln3 (by kernel_rfl) rfl rfl ((o2.at (by decide) (by decide) (by decide +kernel)).ex (by with_reducible repeat (first | exact ex_refl _ | exact ex_more | apply ex_alloc | apply ex_plus | apply ex_drew | apply ex_drewN | (apply ex_on; assumption))))).mono ?_; rintro e w' ⟨a3, c3, k3, kc3, hs3, rfl, ⟨y3, rfl⟩, o3⟩)
    have bR' := blk_ex (w' := ((plus ((plus ((plus v0 y1).alloc (.cells #[.slice a1 3 c1, .slice k1 3 kc1] 27)) y2).alloc (.cells #[.slice a2 3 c2, .slice k2 3 kc2] 27)) y3).alloc (.cells #[.slice a3 3 c3, .slice k3 3 kc3] 27))) (by with_reducible repeat (first | exact ex_refl _ | exact ex_more | apply ex_alloc | apply ex_plus | apply ex_drew | apply ex_drewN | (apply ex_on; assumption))) bR
    have bS' := blk_ex (w' := ((plus ((plus ((plus v0 y1).alloc (.cells #[.slice a1 3 c1, .slice k1 3 kc1] 27)) y2).alloc (.cells #[.slice a2 3 c2, .slice k2 3 kc2] 27)) y3).alloc (.cells #[.slice a3 3 c3, .slice k3 3 kc3] 27))) (by with_reducible repeat (first | exact ex_refl _ | exact ex_more | apply ex_alloc | apply ex_plus | apply ex_drew | apply ex_drewN | (apply ex_on; assumption))) bS
    have bH' := blk_ex (w' := ((plus ((plus ((plus v0 y1).alloc (.cells #[.slice a1 3 c1, .slice k1 3 kc1] 27)) y2).alloc (.cells #[.slice a2 3 c2, .slice k2 3 kc2] 27)) y3).alloc (.cells #[.slice a3 3 c3, .slice k3 3 kc3] 27))) (by with_reducible repeat (first | exact ex_refl _ | exact ex_more | apply ex_alloc | apply ex_plus | apply ex_drew | apply ex_drewN | (apply ex_on; assumption))) bH
    have bL : ((plus ((plus ((plus v0 y1).alloc (.cells #[.slice a1 3 c1, .slice k1 3 kc1] 27)) y2).alloc (.cells #[.slice a2 3 c2, .slice k2 3 kc2] 27)) y3).alloc (.cells #[.slice a3 3 c3, .slice k3 3 kc3] 27)).heap[(v0.heap.size + (blocks y1).size + 1 + (blocks y2).size + 1 + (blocks y3).size)]? = some (.cells #[.slice a3 3 c3, .slice k3 3 kc3] 27) := by rw [blk_alloc, if_pos (by simp [go_sem])]
    have oL := (o3.ex (ex_alloc (o := .cells #[.slice a3 3 c3, .slice k3 3 kc3] 27) (ex_refl _))).base (T' := w) (by have := ex_size hx0; simp [go_sem]; omega)
    have hL : ∃ y, ((plus ((plus ((plus v0 y1).alloc (.cells #[.slice a1 3 c1, .slice k1 3 kc1] 27)) y2).alloc (.cells #[.slice a2 3 c2, .slice k2 3 kc2] 27)) y3).alloc (.cells #[.slice a3 3 c3, .slice k3 3 kc3] 27)) = plus w y := (by with_reducible repeat (first | exact ex_refl _ | exact ex_more | apply ex_alloc | apply ex_plus | apply ex_drew | apply ex_drewN | (apply ex_on; assumption)))
    clear o1 o2 o3 q0 q1 h0 h1 h2 h3 h4 h5 bR bS bH lG lH hG0
    have nL : w.heap.size + 1 + 1 + 1 < (v0.heap.size + (blocks y1).size + 1 + (blocks y2).size + 1 + (blocks y3).size) := Nat.lt_of_lt_of_le (Nat.lt_of_lt_of_le lH0 (by omega)) (Nat.le_refl _)
    generalize ((plus ((plus ((plus v0 y1).alloc (.cells #[.slice a1 3 c1, .slice k1 3 kc1] 27)) y2).alloc (.cells #[.slice a2 3 c2, .slice k2 3 kc2] 27)) y3).alloc (.cells #[.slice a3 3 c3, .slice k3 3 kc3] 27)) = v9 at *
    generalize (v0.heap.size + (blocks y1).size + 1 + (blocks y2).size + 1 + (blocks y3).size) = bl at *
    have r0 := frozen_blk (i := 0) bR'
    have r1 := frozen_blk (i := 1) bR'
    have s0 := cell_blk (i := 0) bR' rfl
    have s1 := cell_blk (i := 1) bR' rfl
    have fs0 := frozen_blk (i := 0) bS'
    have cs0 := cell_blk (i := 0) bS' rfl
    have hs0' := cell_blk (i := 0) bH' rfl
    have fs1 := frozen_blk (i := 1) bS'
    have cs1 := cell_blk (i := 1) bS' rfl
    have hs1' := cell_blk (i := 1) bH' rfl
    have fs2 := frozen_blk (i := 2) bS'
    have cs2 := cell_blk (i := 2) bS' rfl
    have hs2' := cell_blk (i := 2) bH' rfl
    have fs3 := frozen_blk (i := 3) bS'
    have cs3 := cell_blk (i := 3) bS' rfl
    have hs3' := cell_blk (i := 3) bH' rfl
    have fs4 := frozen_blk (i := 4) bS'
    have cs4 := cell_blk (i := 4) bS' rfl
    have hs4' := cell_blk (i := 4) bH' rfl
    have fs5 := frozen_blk (i := 5) bS'
    have cs5 := cell_blk (i := 5) bS' rfl
    have hs5' := cell_blk (i := 5) bH' rfl
    have l0 := cell_blk (i := 0) bL rfl
    have l1 := cell_blk (i := 1) bL rfl
    have lL := blk_lt bL
    have lH' := blk_lt bH'
    go_big_region
    have oL0 := oL.set_other (i := 0) (u := .slice a3 3 c3) bR' (by decide) (by decide) (by decide)
    have eR0 : (v9.setCell ⟨w.heap.size, 0, none⟩ (.slice a3 3 c3)).heap[w.heap.size]? = some (.cells #[.slice a3 3 c3, .slice none 0 0] 27) := blk_set_eq bR'
    have eS0 : (v9.setCell ⟨w.heap.size, 0, none⟩ (.slice a3 3 c3)).heap[w.heap.size + 1]? = some (.cells #[.int .i64 0, .int .i64 0, .int .i64 0, .int .i64 0, .int .i64 0, .int .i64 0] 30) := (blk_set_ne (show w.heap.size ≠ w.heap.size + 1 by omega)).trans bS'
    have oL1 := oL0.set_other (i := 1) (u := .slice k3 3 kc3) eR0 (by decide) (by decide) (by decide)
    have eR1 : ((v9.setCell ⟨w.heap.size, 0, none⟩ (.slice a3 3 c3)).setCell ⟨w.heap.size, 1, none⟩ (.slice k3 3 kc3)).heap[w.heap.size]? = some (.cells #[.slice a3 3 c3, .slice k3 3 kc3] 27) := blk_set_eq eR0
    have eS1 : ((v9.setCell ⟨w.heap.size, 0, none⟩ (.slice a3 3 c3)).setCell ⟨w.heap.size, 1, none⟩ (.slice k3 3 kc3)).heap[w.heap.size + 1]? = some (.cells #[.int .i64 0, .int .i64 0, .int .i64 0, .int .i64 0, .int .i64 0, .int .i64 0] 30) := (blk_set_ne (show w.heap.size ≠ w.heap.size + 1 by omega)).trans eS0
    have oL2 := oL1.set_other (i := 0) (u := .int .i64 0) eS1 (by decide) (by decide) (by decide)
    have eR2 : (((v9.setCell ⟨w.heap.size, 0, none⟩ (.slice a3 3 c3)).setCell ⟨w.heap.size, 1, none⟩ (.slice k3 3 kc3)).setCell ⟨w.heap.size + 1, 0, none⟩ (.int .i64 0)).heap[w.heap.size]? = some (.cells #[.slice a3 3 c3, .slice k3 3 kc3] 27) := (blk_set_ne (show w.heap.size + 1 ≠ w.heap.size by omega)).trans eR1
    have eS2 : (((v9.setCell ⟨w.heap.size, 0, none⟩ (.slice a3 3 c3)).setCell ⟨w.heap.size, 1, none⟩ (.slice k3 3 kc3)).setCell ⟨w.heap.size + 1, 0, none⟩ (.int .i64 0)).heap[w.heap.size + 1]? = some (.cells #[.int .i64 0, .int .i64 0, .int .i64 0, .int .i64 0, .int .i64 0, .int .i64 0] 30) := blk_set_eq eS1
    have oL3 := oL2.set_other (i := 1) (u := .int .i64 1) eS2 (by decide) (by decide) (by decide)
    have eR3 : ((((v9.setCell ⟨w.heap.size, 0, none⟩ (.slice a3 3 c3)).setCell ⟨w.heap.size, 1, none⟩ (.slice k3 3 kc3)).setCell ⟨w.heap.size + 1, 0, none⟩ (.int .i64 0)).setCell ⟨w.heap.size + 1, 1, none⟩ (.int .i64 1)).heap[w.heap.size]? = some (.cells #[.slice a3 3 c3, .slice k3 3 kc3] 27) := (blk_set_ne (show w.heap.size + 1 ≠ w.heap.size by omega)).trans eR2
    have eS3 : ((((v9.setCell ⟨w.heap.size, 0, none⟩ (.slice a3 3 c3)).setCell ⟨w.heap.size, 1, none⟩ (.slice k3 3 kc3)).setCell ⟨w.heap.size + 1, 0, none⟩ (.int .i64 0)).setCell ⟨w.heap.size + 1, 1, none⟩ (.int .i64 1)).heap[w.heap.size + 1]? = some (.cells #[.int .i64 0, .int .i64 1, .int .i64 0, .int .i64 0, .int .i64 0, .int .i64 0] 30) := blk_set_eq eS2
    have oL4 := oL3.set_other (i := 2) (u := .int .i64 1) eS3 (by decide) (by decide) (by decide)
    have eR4 : (((((v9.setCell ⟨w.heap.size, 0, none⟩ (.slice a3 3 c3)).setCell ⟨w.heap.size, 1, none⟩ (.slice k3 3 kc3)).setCell ⟨w.heap.size + 1, 0, none⟩ (.int .i64 0)).setCell ⟨w.heap.size + 1, 1, none⟩ (.int .i64 1)).setCell ⟨w.heap.size + 1, 2, none⟩ (.int .i64 1)).heap[w.heap.size]? = some (.cells #[.slice a3 3 c3, .slice k3 3 kc3] 27) := (blk_set_ne (show w.heap.size + 1 ≠ w.heap.size by omega)).trans eR3
    have eS4 : (((((v9.setCell ⟨w.heap.size, 0, none⟩ (.slice a3 3 c3)).setCell ⟨w.heap.size, 1, none⟩ (.slice k3 3 kc3)).setCell ⟨w.heap.size + 1, 0, none⟩ (.int .i64 0)).setCell ⟨w.heap.size + 1, 1, none⟩ (.int .i64 1)).setCell ⟨w.heap.size + 1, 2, none⟩ (.int .i64 1)).heap[w.heap.size + 1]? = some (.cells #[.int .i64 0, .int .i64 1, .int .i64 1, .int .i64 0, .int .i64 0, .int .i64 0] 30) := blk_set_eq eS3
    have oL5 := oL4.set_other (i := 3) (u := .int .i64 1) eS4 (by decide) (by decide) (by decide)
    have eR5 : ((((((v9.setCell ⟨w.heap.size, 0, none⟩ (.slice a3 3 c3)).setCell ⟨w.heap.size, 1, none⟩ (.slice k3 3 kc3)).setCell ⟨w.heap.size + 1, 0, none⟩ (.int .i64 0)).setCell ⟨w.heap.size + 1, 1, none⟩ (.int .i64 1)).setCell ⟨w.heap.size + 1, 2, none⟩ (.int .i64 1)).setCell ⟨w.heap.size + 1, 3, none⟩ (.int .i64 1)).heap[w.heap.size]? = some (.cells #[.slice a3 3 c3, .slice k3 3 kc3] 27) := (blk_set_ne (show w.heap.size + 1 ≠ w.heap.size by omega)).trans eR4
    have eS5 : ((((((v9.setCell ⟨w.heap.size, 0, none⟩ (.slice a3 3 c3)).setCell ⟨w.heap.size, 1, none⟩ (.slice k3 3 kc3)).setCell ⟨w.heap.size + 1, 0, none⟩ (.int .i64 0)).setCell ⟨w.heap.size + 1, 1, none⟩ (.int .i64 1)).setCell ⟨w.heap.size + 1, 2, none⟩ (.int .i64 1)).setCell ⟨w.heap.size + 1, 3, none⟩ (.int .i64 1)).heap[w.heap.size + 1]? = some (.cells #[.int .i64 0, .int .i64 1, .int .i64 1, .int .i64 1, .int .i64 0, .int .i64 0] 30) := blk_set_eq eS4
    have oL6 := oL5.set_other (i := 4) (u := .int .i64 2) eS5 (by decide) (by decide) (by decide)
    have eR6 : (((((((v9.setCell ⟨w.heap.size, 0, none⟩ (.slice a3 3 c3)).setCell ⟨w.heap.size, 1, none⟩ (.slice k3 3 kc3)).setCell ⟨w.heap.size + 1, 0, none⟩ (.int .i64 0)).setCell ⟨w.heap.size + 1, 1, none⟩ (.int .i64 1)).setCell ⟨w.heap.size + 1, 2, none⟩ (.int .i64 1)).setCell ⟨w.heap.size + 1, 3, none⟩ (.int .i64 1)).setCell ⟨w.heap.size + 1, 4, none⟩ (.int .i64 2)).heap[w.heap.size]? = some (.cells #[.slice a3 3 c3, .slice k3 3 kc3] 27) := (blk_set_ne (show w.heap.size + 1 ≠ w.heap.size by omega)).trans eR5
    have eS6 : (((((((v9.setCell ⟨w.heap.size, 0, none⟩ (.slice a3 3 c3)).setCell ⟨w.heap.size, 1, none⟩ (.slice k3 3 kc3)).setCell ⟨w.heap.size + 1, 0, none⟩ (.int .i64 0)).setCell ⟨w.heap.size + 1, 1, none⟩ (.int .i64 1)).setCell ⟨w.heap.size + 1, 2, none⟩ (.int .i64 1)).setCell ⟨w.heap.size + 1, 3, none⟩ (.int .i64 1)).setCell ⟨w.heap.size + 1, 4, none⟩ (.int .i64 2)).heap[w.heap.size + 1]? = some (.cells #[.int .i64 0, .int .i64 1, .int .i64 1, .int .i64 1, .int .i64 2, .int .i64 0] 30) := blk_set_eq eS5
    have oL7 := oL6.set_other (i := 5) (u := .int .i64 1) eS6 (by decide) (by decide) (by decide)
    have eR7 : ((((((((v9.setCell ⟨w.heap.size, 0, none⟩ (.slice a3 3 c3)).setCell ⟨w.heap.size, 1, none⟩ (.slice k3 3 kc3)).setCell ⟨w.heap.size + 1, 0, none⟩ (.int .i64 0)).setCell ⟨w.heap.size + 1, 1, none⟩ (.int .i64 1)).setCell ⟨w.heap.size + 1, 2, none⟩ (.int .i64 1)).setCell ⟨w.heap.size + 1, 3, none⟩ (.int .i64 1)).setCell ⟨w.heap.size + 1, 4, none⟩ (.int .i64 2)).setCell ⟨w.heap.size + 1, 5, none⟩ (.int .i64 1)).heap[w.heap.size]? = some (.cells #[.slice a3 3 c3, .slice k3 3 kc3] 27) := (blk_set_ne (show w.heap.size + 1 ≠ w.heap.size by omega)).trans eR6
    have eS7 : ((((((((v9.setCell ⟨w.heap.size, 0, none⟩ (.slice a3 3 c3)).setCell ⟨w.heap.size, 1, none⟩ (.slice k3 3 kc3)).setCell ⟨w.heap.size + 1, 0, none⟩ (.int .i64 0)).setCell ⟨w.heap.size + 1, 1, none⟩ (.int .i64 1)).setCell ⟨w.heap.size + 1, 2, none⟩ (.int .i64 1)).setCell ⟨w.heap.size + 1, 3, none⟩ (.int .i64 1)).setCell ⟨w.heap.size + 1, 4, none⟩ (.int .i64 2)).setCell ⟨w.heap.size + 1, 5, none⟩ (.int .i64 1)).heap[w.heap.size + 1]? = some (.cells #[.int .i64 0, .int .i64 1, .int .i64 1, .int .i64 1, .int .i64 2, .int .i64 1] 30) := blk_set_eq eS6
    have hE8 : ∃ y, ((((((((v9.setCell ⟨w.heap.size, 0, none⟩ (.slice a3 3 c3)).setCell ⟨w.heap.size, 1, none⟩ (.slice k3 3 kc3)).setCell ⟨w.heap.size + 1, 0, none⟩ (.int .i64 0)).setCell ⟨w.heap.size + 1, 1, none⟩ (.int .i64 1)).setCell ⟨w.heap.size + 1, 2, none⟩ (.int .i64 1)).setCell ⟨w.heap.size + 1, 3, none⟩ (.int .i64 1)).setCell ⟨w.heap.size + 1, 4, none⟩ (.int .i64 2)).setCell ⟨w.heap.size + 1, 5, none⟩ (.int .i64 1)) = plus w y := (ex_set_new (ex_set_new (ex_set_new (ex_set_new (ex_set_new (ex_set_new (ex_set_new (ex_set_new hL (by omega)) (by omega)) (by omega)) (by omega)) (by omega)) (by omega)) (by omega)) (by omega))
    have b0 : ((((((((v9.setCell ⟨w.heap.size, 0, none⟩ (.slice a3 3 c3)).setCell ⟨w.heap.size, 1, none⟩ (.slice k3 3 kc3)).setCell ⟨w.heap.size + 1, 0, none⟩ (.int .i64 0)).setCell ⟨w.heap.size + 1, 1, none⟩ (.int .i64 1)).setCell ⟨w.heap.size + 1, 2, none⟩ (.int .i64 1)).setCell ⟨w.heap.size + 1, 3, none⟩ (.int .i64 1)).setCell ⟨w.heap.size + 1, 4, none⟩ (.int .i64 2)).setCell ⟨w.heap.size + 1, 5, none⟩ (.int .i64 1)).drew.heap[w.heap.size]? = some (.cells #[.slice a3 3 c3, .slice k3 3 kc3] 27) := blk_ex (ex_drew (ex_refl _)) eR7
    have b1 : ((((((((v9.setCell ⟨w.heap.size, 0, none⟩ (.slice a3 3 c3)).setCell ⟨w.heap.size, 1, none⟩ (.slice k3 3 kc3)).setCell ⟨w.heap.size + 1, 0, none⟩ (.int .i64 0)).setCell ⟨w.heap.size + 1, 1, none⟩ (.int .i64 1)).setCell ⟨w.heap.size + 1, 2, none⟩ (.int .i64 1)).setCell ⟨w.heap.size + 1, 3, none⟩ (.int .i64 1)).setCell ⟨w.heap.size + 1, 4, none⟩ (.int .i64 2)).setCell ⟨w.heap.size + 1, 5, none⟩ (.int .i64 1)).drew.heap[w.heap.size + 1]? = some (.cells #[.int .i64 0, .int .i64 1, .int .i64 1, .int .i64 1, .int .i64 2, .int .i64 1] 30) := blk_ex (ex_drew (ex_refl _)) eS7
    have hv : ∃ y, ((((((((v9.setCell ⟨w.heap.size, 0, none⟩ (.slice a3 3 c3)).setCell ⟨w.heap.size, 1, none⟩ (.slice k3 3 kc3)).setCell ⟨w.heap.size + 1, 0, none⟩ (.int .i64 0)).setCell ⟨w.heap.size + 1, 1, none⟩ (.int .i64 1)).setCell ⟨w.heap.size + 1, 2, none⟩ (.int .i64 1)).setCell ⟨w.heap.size + 1, 3, none⟩ (.int .i64 1)).setCell ⟨w.heap.size + 1, 4, none⟩ (.int .i64 2)).setCell ⟨w.heap.size + 1, 5, none⟩ (.int .i64 1)).drew = plus w y := ex_drew hE8
    have o10 := oL7.ex (w' := ((((((((v9.setCell ⟨w.heap.size, 0, none⟩ (.slice a3 3 c3)).setCell ⟨w.heap.size, 1, none⟩ (.slice k3 3 kc3)).setCell ⟨w.heap.size + 1, 0, none⟩ (.int .i64 0)).setCell ⟨w.heap.size + 1, 1, none⟩ (.int .i64 1)).setCell ⟨w.heap.size + 1, 2, none⟩ (.int .i64 1)).setCell ⟨w.heap.size + 1, 3, none⟩ (.int .i64 1)).setCell ⟨w.heap.size + 1, 4, none⟩ (.int .i64 2)).setCell ⟨w.heap.size + 1, 5, none⟩ (.int .i64 1)).drew) (ex_drew (ex_refl _))
    clear oL hE8 eR0 eS0 oL0 eR1 eS1 oL1 eR2 eS2 oL2 eR3 eS3 oL3 eR4 eS4 oL4 eR5 eS5 oL5 eR6 eS6 oL6 eR7 eS7 oL7 bR' bS' bH' bL r0 r1 s0 s1 l0 l1 fs0 cs0 hs0' fs1 cs1 hs1' fs2 cs2 hs2' fs3 cs3 hs3' fs4 cs4 hs4' fs5 cs5 hs5'
    generalize ((((((((v9.setCell ⟨w.heap.size, 0, none⟩ (.slice a3 3 c3)).setCell ⟨w.heap.size, 1, none⟩ (.slice k3 3 kc3)).setCell ⟨w.heap.size + 1, 0, none⟩ (.int .i64 0)).setCell ⟨w.heap.size + 1, 1, none⟩ (.int .i64 1)).setCell ⟨w.heap.size + 1, 2, none⟩ (.int .i64 1)).setCell ⟨w.heap.size + 1, 3, none⟩ (.int .i64 1)).setCell ⟨w.heap.size + 1, 4, none⟩ (.int .i64 2)).setCell ⟨w.heap.size + 1, 5, none⟩ (.int .i64 1)).drew = v10 at *
    have g0 := cell_blk (i := 0) b0 rfl
    have g1 := cell_blk (i := 1) b0 rfl
    have j0 := cell_blk (i := 0) b1 rfl
    have j1 := cell_blk (i := 1) b1 rfl
    have j2 := cell_blk (i := 2) b1 rfl
    have j3 := cell_blk (i := 3) b1 rfl
    have j4 := cell_blk (i := 4) b1 rfl
    have j5 := cell_blk (i := 5) b1 rfl
    go_wp2
    exact bodyPost_ret (v := .tuple #[.agg #[.slice a3 3 c3, .slice k3 3 kc3], .agg #[.int .i64 0, .int .i64 1, .int .i64 1, .int .i64 1, .int .i64 2, .int .i64 1], .bool true]) (by simp [results, Try.results9, go_sem, g0, g1, j0, j1, j2, j3, j4, j5]) rfl ⟨_, _, _, _, _, rfl, hv, o10⟩

theorem rc1 : reachR g3 (0, 1) (2, 1) = true := by kernel_rfl
theorem rc2 : reachR g3 (2, 1) (0, 1) = false := by kernel_rfl
theorem nkids_is {ao ko : Option Addr} {n cap kn kcap : Nat} {hs : List RH} {gr : Gr} {s g er : Int} {w : World} {l : List (Int × Int)} (hl : kidsL gr (s, g) = l) (he : askErr gr (s, g) (s, g) = er) (hG : GrAt w ao n ko kn hs gr) :
    Calls Try.prog 11 #[.agg #[.slice ao n cap, .slice ko kn kcap], .agg #[.int .i64 s, .int .i64 g]] w fun e w' => RetTO w l er e w' := by
  subst hl he
  exact nkids_calls ao n cap ko kn kcap hs gr s g w hG
theorem nparents_is {ao ko : Option Addr} {n cap kn kcap : Nat} {hs : List RH} {gr : Gr} {s g er : Int} {w : World} {l : List (Int × Int)} (hl : parentsL gr (s, g) = l) (he : askErr gr (s, g) (s, g) = er) (hG : GrAt w ao n ko kn hs gr) :
    Calls Try.prog 29 #[.agg #[.slice ao n cap, .slice ko kn kcap], .agg #[.int .i64 s, .int .i64 g]] w fun e w' => RetTO w l er e w' := by
  subst hl he
  exact nparents_calls ao n cap ko kn kcap hs gr s g w hG
theorem nreaches_is {ao ko : Option Addr} {n cap kn kcap : Nat} {hs : List RH} {gr : Gr} {s g i1 i2 er : Int} {b : Bool} {w : World} (hb : reachR gr (s, g) (i1, i2) = b) (he : askErr gr (s, g) (i1, i2) = er) (hG : GrAt w ao n ko kn hs gr) :
    Calls Try.prog 31 #[.agg #[.slice ao n cap, .slice ko kn kcap], .agg #[.int .i64 s, .int .i64 g], .agg #[.int .i64 i1, .int .i64 i2]] w fun e w' => e = .returned (.tuple #[.bool b, .int .i64 er]) ∧ Below w.heap.size w w' := by
  subst hb he
  exact nreaches_calls ao n cap ko kn kcap hs gr s g i1 i2 w hG

set_option maxRecDepth 100000 in
set_option maxHeartbeats 4000000 in
theorem galive_calls (w : World) : Calls Try.prog 14 #[] w fun e w' => e = .returned (.bool true) ∧ Below w.heap.size w w' := by
  go_enter Try.func14, Try.ntmps14
  go_upto_region 2 with (go_at_call 9; refine (three_calls _).mono ?_; rintro e w1 ⟨ao, cap, ko, kcap, hs, rfl, hw1, o1⟩)
  have hG0 := o1.at (by decide) (by decide) (by decide +kernel)
  go_upto_region 5 with (first | (go_at_call 11; refine (nkids_is (l := [(1, 1), (1, 1)]) (er := 0) (by kernel_rfl) (by kernel_rfl) (hG0.ex (by with_reducible repeat (first | exact ex_refl _ | exact ex_more | apply ex_alloc | apply ex_plus | apply ex_drew | apply ex_drewN | (apply ex_on; assumption))))).mono ?_; rintro e w' ⟨Ka, Kn, Kc, rfl, ⟨y1, rfl⟩, oK⟩) | (go_at_call 29; refine (nparents_is (l := [(0, 1), (0, 1)]) (er := 0) (by kernel_rfl) (by kernel_rfl) (hG0.ex (by with_reducible repeat (first | exact ex_refl _ | exact ex_more | apply ex_alloc | apply ex_plus | apply ex_drew | apply ex_drewN | (apply ex_on; assumption))))).mono ?_; rintro e w' ⟨Pa, Pn, Pc, rfl, ⟨y2, rfl⟩, oP⟩) | (go_at_call 31; refine (plus_post (nreaches_is (er := 0) rc1 (by kernel_rfl) (hG0.ex (by with_reducible repeat (first | exact ex_refl _ | exact ex_more | apply ex_alloc | apply ex_plus | apply ex_drew | apply ex_drewN | (apply ex_on; assumption)))))).mono ?_; rintro e w' ⟨rfl, nx, rfl⟩))
  go_upto_region 6 with (go_at_call 31; refine (plus_post (nreaches_is (er := 0) rc2 (by kernel_rfl) (hG0.ex (by with_reducible repeat (first | exact ex_refl _ | exact ex_more | apply ex_alloc | apply ex_plus | apply ex_drew | apply ex_drewN | (apply ex_on; assumption)))))).mono ?_; rintro e w' ⟨rfl, nx, rfl⟩)
  obtain rfl : 2 = Kn := oK.1
  obtain rfl : 2 = Pn := oP.1
  obtain ⟨ka, kf, rfl, hka, hkc⟩ := oK.lay.some (by decide)
  obtain ⟨pa, pf, rfl, hpa, hpc⟩ := oP.lay.some (by decide)
  have u0 := hkc 0 _ rfl
  rw [Nat.add_zero] at u0
  have u1 := hkc 1 _ rfl
  have u2 := hpc 2 _ rfl
  have u3 := hpc 3 _ rfl
  refine name_world (fun w' => (∃ y, w' = plus w y) ∧ (w'.cell? ⟨ka, kf, none⟩ = some (.int .i64 1) ∧ w'.cell? ⟨ka, kf + 1, none⟩ = some (.int .i64 1) ∧ w'.cell? ⟨pa, pf + 2, none⟩ = some (.int .i64 0) ∧ w'.cell? ⟨pa, pf + 3, none⟩ = some (.int .i64 1)) ∧ w'.cell? ⟨w1.heap.size + 1, 0, none⟩ = some (.int .i64 0) ∧ w'.cell? ⟨w1.heap.size + 1, 1, none⟩ = some (.int .i64 1) ∧ w'.cell? ⟨w1.heap.size + 1, 2, none⟩ = some (.int .i64 1) ∧ w'.cell? ⟨w1.heap.size + 1, 3, none⟩ = some (.int .i64 1)) ⟨(by with_reducible repeat (first | exact ex_refl _ | exact ex_more | apply ex_alloc | apply ex_plus | apply ex_drew | apply ex_drewN | (apply ex_on; assumption))), ⟨cell_ex (by with_reducible repeat (first | exact ex_refl _ | exact ex_more | apply ex_alloc | apply ex_plus | apply ex_drew | apply ex_drewN)) u0, cell_ex (by with_reducible repeat (first | exact ex_refl _ | exact ex_more | apply ex_alloc | apply ex_plus | apply ex_drew | apply ex_drewN)) u1, cell_ex (by with_reducible repeat (first | exact ex_refl _ | exact ex_more | apply ex_alloc | apply ex_plus | apply ex_drew | apply ex_drewN)) u2, cell_ex (by with_reducible repeat (first | exact ex_refl _ | exact ex_more | apply ex_alloc | apply ex_plus | apply ex_drew | apply ex_drewN)) u3⟩, by simp [go_sem, ↓IntWalk.iteOmega], by simp [go_sem, ↓IntWalk.iteOmega], by simp [go_sem, ↓IntWalk.iteOmega], by simp [go_sem, ↓IntWalk.iteOmega]⟩ ?_
  rintro v5 ⟨hv5, ⟨x0, x1, x2, x3⟩, z0, z1, z2, z3⟩
  clear oK oP hkc hpc hG0 o1 u0 u1 u2 u3 hka hpa
  have n1 := cell_lt x0
  have n2 := cell_lt x2
  have n3 := cell_lt z0
  refine region_plus (by kernel_rfl) (by kernel_rfl) ?_
  (repeat (go_big_quiet_step (fail)))
  refine wpQuiet_nil ?_
  rintro _ ⟨x2, rfl⟩
  go_wp2
  go_ret
  exact ⟨rfl, below_ex (by with_reducible repeat (first | exact ex_refl _ | exact ex_more | apply ex_alloc | apply ex_plus | apply ex_drew | apply ex_drewN | (apply ex_on; assumption)))⟩

end Go.Proofs.Ytmmflpjfgapaaaa
