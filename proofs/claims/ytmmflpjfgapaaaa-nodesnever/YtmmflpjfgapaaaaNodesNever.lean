/- NodesNever is proved: whatever is done to a graph, it may be, and no node has a child that reaches it; a link is refused as a loop just if it would make one: the call returns true for any graph and acts. No condition. -/
import Derived.Test.YtmmflpjfgapaaaaNodesN
import Derived.Test.YtmmflpjfgapaaaaRel2
import Derived.Test.YtmmflpjfgapaaaaLaw
namespace Go.Proofs.Ytmmflpjfgapaaaa
open Go.RowKit Go.ChangeShapes Go.WideShapes Go.ChangeAt
set_option linter.unusedSimpArgs false
set_option linter.unusedVariables false
attribute [local go_sem] plus_size plus_drew dn_set dn_alloc dn_plus plus_dn cell_plus frozen_plus set_plus cell_alloc frozen_alloc set_alloc

def nvkS (i : Nat) : List Nat := match i with | 0 => [123] | 1 => [124] | 2 => [125] | 3 => [126] | 4 => [127] | 5 => [128] | 6 => [129] | 7 => [122] | 8 => [130] | 9 => [131] | 10 => [] | 11 => [14] | _ => []
def nvkΦ (w : World) (p13 : Nat) (xa ya : Option Addr) (xn xc yn yc p9 gg vl vc p q : Nat) (h1 i1 : Int × Int) (pos er : Int) (n' m' : Nat) (R : Gr) (i : Nat) (t : Nat → Value) (D : Nat → Bool) (w' : World) : Prop := match i with
  | 0 => t 123 = .agg #[.slice xa xn xc, .slice ya yn yc]
  | 1 => t 124 = .slice (some ⟨gg, 0, none⟩) vl vc
  | 2 => t 125 = .pointer (some ⟨p9, 1, none⟩)
  | 3 => t 126 = .int .i64 (p : Int)
  | 4 => t 127 = .pointer (some ⟨gg, p * 2, none⟩)
  | 5 => t 128 = .agg #[.int .i64 h1.1, .int .i64 h1.2]
  | 6 => ∃ ua uc ka kc us, t 129 = .tuple #[.agg #[.slice ua n' uc, .slice ka m' kc], .int .i64 er] ∧ (D 10 = false → GrOwn w w' ua n' uc ka m' kc us R)
  | 7 => ∃ ua uc ka kc us, t 122 = .tuple #[.agg #[.slice ua n' uc, .slice ka m' kc], .int .i64 er] ∧ (D 10 = false → GrOwn w w' ua n' uc ka m' kc us R)
  | 8 => ∃ ua uc ka kc us, t 130 = .agg #[.slice ua n' uc, .slice ka m' kc] ∧ (D 10 = false → GrOwn w w' ua n' uc ka m' kc us R)
  | 9 => t 131 = .int .i64 er
  | 10 => D 10 = true ∧ ∃ ua uc ka kc us, w'.heap[p13]? = some (.cells #[.slice ua n' uc, .slice ka m' kc] 27) ∧ GrOwn w w' ua n' uc ka m' kc us R
  | 11 => t 14 = .int .i64 er
  | _ => True
theorem nvkΦ_mono (w : World) (p13 : Nat) (xa ya : Option Addr) (xn xc yn yc p9 gg vl vc p q : Nat) (h1 i1 : Int × Int) (pos er : Int) (n' m' : Nat) (R : Gr) : ∀ i t t' D v D' v', nvkΦ w p13 xa ya xn xc yn yc p9 gg vl vc p q h1 i1 pos er n' m' R i t D v → (∀ s ∈ nvkS i, t' s = t s) → Turn 10 (some p13) D v D' v' → nvkΦ w p13 xa ya xn xc yn yc p9 gg vl vc p q h1 i1 pos er n' m' R i t' D' v' := by
  intro i t t' D v D' v' h hs' ht
  match i with
  | 0 => exact (hs' 123 (by decide)).trans h
  | 1 => exact (hs' 124 (by decide)).trans h
  | 2 => exact (hs' 125 (by decide)).trans h
  | 3 => exact (hs' 126 (by decide)).trans h
  | 4 => exact (hs' 127 (by decide)).trans h
  | 5 => exact (hs' 128 (by decide)).trans h
  | 6 => obtain ⟨ua, uc, ka, kc, us, h1, h2⟩ := h; exact ⟨ua, uc, ka, kc, us, (hs' 129 (by decide)).trans h1, fun hd => (h2 (turn_no ht hd)).ex (turn_same ht (by rw [turn_no ht hd, hd]))⟩
  | 7 => obtain ⟨ua, uc, ka, kc, us, h1, h2⟩ := h; exact ⟨ua, uc, ka, kc, us, (hs' 122 (by decide)).trans h1, fun hd => (h2 (turn_no ht hd)).ex (turn_same ht (by rw [turn_no ht hd, hd]))⟩
  | 8 => obtain ⟨ua, uc, ka, kc, us, h1, h2⟩ := h; exact ⟨ua, uc, ka, kc, us, (hs' 130 (by decide)).trans h1, fun hd => (h2 (turn_no ht hd)).ex (turn_same ht (by rw [turn_no ht hd, hd]))⟩
  | 9 => exact (hs' 131 (by decide)).trans h
  | 10 => obtain ⟨hd, ua, uc, ka, kc, us, h1, h2⟩ := h; exact ⟨ht.mono hd, ua, uc, ka, kc, us, turn_still ht (by rw [hd, ht.mono hd]) h1, h2.ex (turn_same ht (by rw [hd, ht.mono hd]))⟩
  | 11 => exact (hs' 14 (by decide)).trans h
  | i + 12 => trivial

def nvlS (i : Nat) : List Nat := match i with | 0 => [136] | 1 => [137] | 2 => [138] | 3 => [139] | 4 => [140] | 5 => [141] | 6 => [142] | 7 => [143] | 8 => [144] | 9 => [145] | 10 => [146] | 11 => [147] | 12 => [148] | 13 => [149] | 14 => [135] | 15 => [150] | 16 => [151] | 17 => [] | 18 => [14] | _ => []
def nvlΦ (w : World) (p13 : Nat) (xa ya : Option Addr) (xn xc yn yc p9 gg vl vc p q : Nat) (h1 i1 : Int × Int) (pos er : Int) (n' m' : Nat) (R : Gr) (i : Nat) (t : Nat → Value) (D : Nat → Bool) (w' : World) : Prop := match i with
  | 0 => t 136 = .agg #[.slice xa xn xc, .slice ya yn yc]
  | 1 => t 137 = .slice (some ⟨gg, 0, none⟩) vl vc
  | 2 => t 138 = .pointer (some ⟨p9, 1, none⟩)
  | 3 => t 139 = .int .i64 (p : Int)
  | 4 => t 140 = .pointer (some ⟨gg, p * 2, none⟩)
  | 5 => t 141 = .agg #[.int .i64 h1.1, .int .i64 h1.2]
  | 6 => t 142 = .slice (some ⟨gg, 0, none⟩) vl vc
  | 7 => t 143 = .pointer (some ⟨p9, 2, none⟩)
  | 8 => t 144 = .int .i64 (q : Int)
  | 9 => t 145 = .pointer (some ⟨gg, q * 2, none⟩)
  | 10 => t 146 = .agg #[.int .i64 i1.1, .int .i64 i1.2]
  | 11 => t 147 = .pointer (some ⟨p9, 3, none⟩)
  | 12 => t 148 = .int .i64 pos
  | 13 => ∃ ua uc ka kc us, t 149 = .tuple #[.agg #[.slice ua n' uc, .slice ka m' kc], .int .i64 er] ∧ (D 17 = false → GrOwn w w' ua n' uc ka m' kc us R)
  | 14 => ∃ ua uc ka kc us, t 135 = .tuple #[.agg #[.slice ua n' uc, .slice ka m' kc], .int .i64 er] ∧ (D 17 = false → GrOwn w w' ua n' uc ka m' kc us R)
  | 15 => ∃ ua uc ka kc us, t 150 = .agg #[.slice ua n' uc, .slice ka m' kc] ∧ (D 17 = false → GrOwn w w' ua n' uc ka m' kc us R)
  | 16 => t 151 = .int .i64 er
  | 17 => D 17 = true ∧ ∃ ua uc ka kc us, w'.heap[p13]? = some (.cells #[.slice ua n' uc, .slice ka m' kc] 27) ∧ GrOwn w w' ua n' uc ka m' kc us R
  | 18 => t 14 = .int .i64 er
  | _ => True
theorem nvlΦ_mono (w : World) (p13 : Nat) (xa ya : Option Addr) (xn xc yn yc p9 gg vl vc p q : Nat) (h1 i1 : Int × Int) (pos er : Int) (n' m' : Nat) (R : Gr) : ∀ i t t' D v D' v', nvlΦ w p13 xa ya xn xc yn yc p9 gg vl vc p q h1 i1 pos er n' m' R i t D v → (∀ s ∈ nvlS i, t' s = t s) → Turn 17 (some p13) D v D' v' → nvlΦ w p13 xa ya xn xc yn yc p9 gg vl vc p q h1 i1 pos er n' m' R i t' D' v' := by
  intro i t t' D v D' v' h hs' ht
  match i with
  | 0 => exact (hs' 136 (by decide)).trans h
  | 1 => exact (hs' 137 (by decide)).trans h
  | 2 => exact (hs' 138 (by decide)).trans h
  | 3 => exact (hs' 139 (by decide)).trans h
  | 4 => exact (hs' 140 (by decide)).trans h
  | 5 => exact (hs' 141 (by decide)).trans h
  | 6 => exact (hs' 142 (by decide)).trans h
  | 7 => exact (hs' 143 (by decide)).trans h
  | 8 => exact (hs' 144 (by decide)).trans h
  | 9 => exact (hs' 145 (by decide)).trans h
  | 10 => exact (hs' 146 (by decide)).trans h
  | 11 => exact (hs' 147 (by decide)).trans h
  | 12 => exact (hs' 148 (by decide)).trans h
  | 13 => obtain ⟨ua, uc, ka, kc, us, h1, h2⟩ := h; exact ⟨ua, uc, ka, kc, us, (hs' 149 (by decide)).trans h1, fun hd => (h2 (turn_no ht hd)).ex (turn_same ht (by rw [turn_no ht hd, hd]))⟩
  | 14 => obtain ⟨ua, uc, ka, kc, us, h1, h2⟩ := h; exact ⟨ua, uc, ka, kc, us, (hs' 135 (by decide)).trans h1, fun hd => (h2 (turn_no ht hd)).ex (turn_same ht (by rw [turn_no ht hd, hd]))⟩
  | 15 => obtain ⟨ua, uc, ka, kc, us, h1, h2⟩ := h; exact ⟨ua, uc, ka, kc, us, (hs' 150 (by decide)).trans h1, fun hd => (h2 (turn_no ht hd)).ex (turn_same ht (by rw [turn_no ht hd, hd]))⟩
  | 16 => exact (hs' 151 (by decide)).trans h
  | 17 => obtain ⟨hd, ua, uc, ka, kc, us, h1, h2⟩ := h; exact ⟨ht.mono hd, ua, uc, ka, kc, us, turn_still ht (by rw [hd, ht.mono hd]) h1, h2.ex (turn_same ht (by rw [hd, ht.mono hd]))⟩
  | 18 => exact (hs' 14 (by decide)).trans h
  | i + 19 => trivial

def nvuS (i : Nat) : List Nat := match i with | 0 => [109] | 1 => [110] | 2 => [111] | 3 => [112] | 4 => [113] | 5 => [114] | 6 => [115] | 7 => [116] | 8 => [117] | 9 => [108] | 10 => [118] | 11 => [119] | 12 => [] | 13 => [14] | _ => []
def nvuΦ (w : World) (p13 : Nat) (xa ya : Option Addr) (xn xc yn yc p9 gg vl vc p q : Nat) (h1 i1 : Int × Int) (pos er : Int) (n' m' : Nat) (R : Gr) (i : Nat) (t : Nat → Value) (D : Nat → Bool) (w' : World) : Prop := match i with
  | 0 => t 109 = .agg #[.slice xa xn xc, .slice ya yn yc]
  | 1 => t 110 = .slice (some ⟨gg, 0, none⟩) vl vc
  | 2 => t 111 = .pointer (some ⟨p9, 1, none⟩)
  | 3 => t 112 = .int .i64 (p : Int)
  | 4 => t 113 = .pointer (some ⟨gg, p * 2, none⟩)
  | 5 => t 114 = .agg #[.int .i64 h1.1, .int .i64 h1.2]
  | 6 => t 115 = .pointer (some ⟨p9, 3, none⟩)
  | 7 => t 116 = .int .i64 pos
  | 8 => ∃ ua uc ka kc us, t 117 = .tuple #[.agg #[.slice ua n' uc, .slice ka m' kc], .int .i64 er] ∧ (D 12 = false → GrOwn w w' ua n' uc ka m' kc us R)
  | 9 => ∃ ua uc ka kc us, t 108 = .tuple #[.agg #[.slice ua n' uc, .slice ka m' kc], .int .i64 er] ∧ (D 12 = false → GrOwn w w' ua n' uc ka m' kc us R)
  | 10 => ∃ ua uc ka kc us, t 118 = .agg #[.slice ua n' uc, .slice ka m' kc] ∧ (D 12 = false → GrOwn w w' ua n' uc ka m' kc us R)
  | 11 => t 119 = .int .i64 er
  | 12 => D 12 = true ∧ ∃ ua uc ka kc us, w'.heap[p13]? = some (.cells #[.slice ua n' uc, .slice ka m' kc] 27) ∧ GrOwn w w' ua n' uc ka m' kc us R
  | 13 => t 14 = .int .i64 er
  | _ => True
theorem nvuΦ_mono (w : World) (p13 : Nat) (xa ya : Option Addr) (xn xc yn yc p9 gg vl vc p q : Nat) (h1 i1 : Int × Int) (pos er : Int) (n' m' : Nat) (R : Gr) : ∀ i t t' D v D' v', nvuΦ w p13 xa ya xn xc yn yc p9 gg vl vc p q h1 i1 pos er n' m' R i t D v → (∀ s ∈ nvuS i, t' s = t s) → Turn 12 (some p13) D v D' v' → nvuΦ w p13 xa ya xn xc yn yc p9 gg vl vc p q h1 i1 pos er n' m' R i t' D' v' := by
  intro i t t' D v D' v' h hs' ht
  match i with
  | 0 => exact (hs' 109 (by decide)).trans h
  | 1 => exact (hs' 110 (by decide)).trans h
  | 2 => exact (hs' 111 (by decide)).trans h
  | 3 => exact (hs' 112 (by decide)).trans h
  | 4 => exact (hs' 113 (by decide)).trans h
  | 5 => exact (hs' 114 (by decide)).trans h
  | 6 => exact (hs' 115 (by decide)).trans h
  | 7 => exact (hs' 116 (by decide)).trans h
  | 8 => obtain ⟨ua, uc, ka, kc, us, h1, h2⟩ := h; exact ⟨ua, uc, ka, kc, us, (hs' 117 (by decide)).trans h1, fun hd => (h2 (turn_no ht hd)).ex (turn_same ht (by rw [turn_no ht hd, hd]))⟩
  | 9 => obtain ⟨ua, uc, ka, kc, us, h1, h2⟩ := h; exact ⟨ua, uc, ka, kc, us, (hs' 108 (by decide)).trans h1, fun hd => (h2 (turn_no ht hd)).ex (turn_same ht (by rw [turn_no ht hd, hd]))⟩
  | 10 => obtain ⟨ua, uc, ka, kc, us, h1, h2⟩ := h; exact ⟨ua, uc, ka, kc, us, (hs' 118 (by decide)).trans h1, fun hd => (h2 (turn_no ht hd)).ex (turn_same ht (by rw [turn_no ht hd, hd]))⟩
  | 11 => exact (hs' 119 (by decide)).trans h
  | 12 => obtain ⟨hd, ua, uc, ka, kc, us, h1, h2⟩ := h; exact ⟨ht.mono hd, ua, uc, ka, kc, us, turn_still ht (by rw [hd, ht.mono hd]) h1, h2.ex (turn_same ht (by rw [hd, ht.mono hd]))⟩
  | 13 => exact (hs' 14 (by decide)).trans h
  | i + 14 => trivial

set_option maxRecDepth 100000 in
set_option maxHeartbeats 32000000 in
theorem nodesNever_walk (ao : Option Addr) (n cap : Nat) (ko : Option Addr) (kn kcap : Nat) (hs : List RH) (gr : Gr) (la : Option Addr) (ln lc : Nat) (ls : List Ac) (w : World) (hG : GrIn w ao n ko kn hs gr) (hn1 : ln ≤ 9223372036854775807) (hl1 : Lay fA w la ln ls) (hkb : ∀ k, k < ln → 0 ≤ (nth dAc ls k).k ∧ (nth dAc ls k).k ≤ 255) :
    Calls Try.prog 6 #[.agg #[.slice ao n cap, .slice ko kn kcap], .slice la ln lc] w fun e w' => e = .returned (.bool true) ∧ Below w.heap.size w w' := by
  have hlen1 := hl1.len
  cases hg1 : greatB n kn hs
  rotate_left
  · go_enter Try.func6, Try.ntmps6
    go_wp2_with (first | (go_at_call 14; refine (plus_post (galive_calls _)).mono ?_; rintro e w' ⟨rfl, na, rfl⟩) | (go_at_call 16; refine (plus_post (great_any (hG.ex (by with_reducible repeat (first | exact ex_refl _ | exact ex_more | apply ex_alloc | apply ex_plus | apply ex_drew | apply ex_drewN))))).mono ?_; rintro e w' ⟨rfl, nb, rfl⟩; rw [hg1]))
    go_ret
    exact ⟨rfl, by with_reducible repeat (first | exact Below.refl _ _ | apply ba | apply bp | apply bd | apply bn)⟩
  have hA := hG.few hg1
  have hsl := hA.sl.len
  obtain ⟨hq1, hq2, hq3⟩ := great_no hg1
  by_cases hbig : 60 < ln
  · have ib : (60 : Int) < (ln : Int) := by omega
    go_enter Try.func6, Try.ntmps6
    go_wp2_with (first | (go_at_call 14; refine (plus_post (galive_calls _)).mono ?_; rintro e w' ⟨rfl, na, rfl⟩) | (go_at_call 16; refine (plus_post (great_any (hG.ex (by with_reducible repeat (first | exact ex_refl _ | exact ex_more | apply ex_alloc | apply ex_plus | apply ex_drew | apply ex_drewN))))).mono ?_; rintro e w' ⟨rfl, nb, rfl⟩; rw [hg1]))
    go_ret
    exact ⟨rfl, by with_reducible repeat (first | exact Below.refl _ _ | apply ba | apply bp | apply bd | apply bn)⟩
  have ib : ¬ (60 : Int) < (ln : Int) := by omega
  have db := decide_eq_false ib
  cases ho : grOk gr
  · have hE0 : grErr gr = 8 := by rw [grErr, ho]; rfl
    go_enter Try.func6, Try.ntmps6
    go_wp2_with (first | (go_at_call 14; refine (plus_post (galive_calls _)).mono ?_; rintro e w' ⟨rfl, na, rfl⟩) | (go_at_call 16; refine (plus_post (great_any (hG.ex (by with_reducible repeat (first | exact ex_refl _ | exact ex_more | apply ex_alloc | apply ex_plus | apply ex_drew | apply ex_drewN))))).mono ?_; rintro e w' ⟨rfl, nb, rfl⟩; rw [hg1]) | (go_at_call 15; refine (plus_post (nref_is hE0 _ _ _ _ _ _ hs (hA.ex (by with_reducible repeat (first | exact ex_refl _ | exact ex_more | apply ex_alloc | apply ex_plus | apply ex_drew | apply ex_drewN))))).mono ?_; rintro e w' ⟨rfl, nx, rfl⟩))
    go_ret
    exact ⟨rfl, by with_reducible repeat (first | exact Below.refl _ _ | apply ba | apply bp | apply bd | apply bn)⟩
  have hE0 : grErr gr = 0 := by rw [grErr, ho]; rfl
  go_enter Try.func6, Try.ntmps6
  go_wp2_with (first | (go_at_call 14; refine (plus_post (galive_calls _)).mono ?_; rintro e w' ⟨rfl, na, rfl⟩) | (go_at_call 16; refine (plus_post (great_any (hG.ex (by with_reducible repeat (first | exact ex_refl _ | exact ex_more | apply ex_alloc | apply ex_plus | apply ex_drew | apply ex_drewN))))).mono ?_; rintro e w' ⟨rfl, nb, rfl⟩; rw [hg1]) | (go_at_call 15; refine (plus_post (nref_is hE0 _ _ _ _ _ _ hs (hA.ex (by with_reducible repeat (first | exact ex_refl _ | exact ex_more | apply ex_alloc | apply ex_plus | apply ex_drew | apply ex_drewN))))).mono ?_; rintro e w' ⟨rfl, nx, rfl⟩))
  go_loopw [6, 7] (fun mv i_ wr => ∃ (gv : List (Int × Int)) (ga : Option Addr) (gc : Nat), gv.length ≤ n ∧ mv = .slice ga gv.length gc ∧ i_ = .int .i64 gv.length ∧ (∃ y, wr = plus w y) ∧ wr.heap[w.heap.size]? = some (.cells #[.slice ao n cap, .slice ko kn kcap] 27) ∧ Own 29 2 f2 w wr ga gv.length gc gv) (fun _ i_ _ => n - (intOf i_).toNat)
  case atStart => exact ⟨[], none, 0, Nat.zero_le _, rfl, rfl, (by with_reducible repeat (first | exact ex_refl _ | exact ex_more | apply ex_alloc | apply ex_plus | apply ex_drew | apply ex_drewN)), blk_ex (w := (w.alloc (.cells #[.slice ao n cap, .slice ko kn kcap] 27))) (by with_reducible repeat (first | exact ex_refl _ | exact ex_more | apply ex_alloc | apply ex_plus | apply ex_drew | apply ex_drewN)) (by rw [blk_alloc, if_pos rfl]), own_nil⟩
  case round =>
    obtain ⟨gv, ga, gc, hi, rfl, rfl, hx, bA, hown⟩ := hrel
    have c0 := cell_blk (i := 0) bA rfl
    have c1 := cell_blk (i := 1) bA rfl
    have lA := blk_lt bA
    by_cases hil : gv.length < n
    · have ii : (gv.length : Int) < (n : Int) := by omega
      obtain ⟨sg, sf, rfl, hsg, hsc⟩ := hA.sl.some (by omega)
      obtain ⟨v0', v1'⟩ := cellS hsl hsc (k := gv.length) hil
      have v0 := cell_ex hx v0'
      have lS : sg < wr.heap.size := Nat.lt_of_lt_of_le hsg (ex_size hx)
      go_wp2_with (at_builtin; refine wpList_append_lay2 (T := w) rfl _ _ rfl kinH f2_c f2_1 rfl (by with_reducible repeat (first | exact ex_refl _ | exact ex_more | apply ex_alloc | apply ex_plus | apply ex_drew | apply ex_drewN | (apply ex_on; assumption))) (hown.ex (by with_reducible repeat (first | exact ex_refl _ | exact ex_more | apply ex_alloc | apply ex_plus | apply ex_drew | apply ex_drewN))) rfl (l2 := [((gv.length : Int), (nth dSl gr.sl gv.length).gen)]) ⟨rfl, .inr ⟨_, 0, rfl, by (simp [go_sem]; try omega), fun jj u hu => by match jj, hu with | 0, hu => (simp [f2] at hu; subst hu; simp [go_sem, ↓IntWalk.iteOmega]) | 1, hu => (simp [f2] at hu; subst hu; simp [go_sem, ↓IntWalk.iteOmega]) | jj + 2, hu => simp [f2] at hu⟩⟩ (by omega) (by decide) ?_; intro ga2 gc2 w4 og hx4 hgr4)
      go_roundw
      case rel => exact ⟨gv ++ [((gv.length : Int), (nth dSl gr.sl gv.length).gen)], ga2, gc2, by rw [List.length_append, List.length_singleton]; omega, by rw [List.length_append]; rfl, by rw [List.length_append, List.length_singleton]; go_num, hx4, grown_blk hgr4 (hown.ex (by with_reducible repeat (first | exact ex_refl _ | exact ex_more | apply ex_alloc | apply ex_plus | apply ex_drew | apply ex_drewN))) (blk_ex (by with_reducible repeat (first | exact ex_refl _ | exact ex_more | apply ex_alloc | apply ex_plus | apply ex_drew | apply ex_drewN)) bA) (by decide), by rw [List.length_append, List.length_singleton]; exact og⟩
      case measure => simp [intOf]; omega
    have ii : ¬ (gv.length : Int) < (n : Int) := by omega
    have hNI : NI w gr gv ao n cap ko kn kcap ga gc wr := ⟨hx, bA, .inl ⟨hs, hA⟩, hown⟩
    go_wp2
    go_loopw [6, 8] (fun mv i_ wr => ∃ (k : Nat) (G : Gr) (V : List (Int × Int)) (xa : Option Addr) (xn xc : Nat) (ya : Option Addr) (yn yc : Nat) (va : Option Addr) (vc : Nat), k ≤ ln ∧ mv = .slice va V.length vc ∧ i_ = .int .i64 k ∧ V.length ≤ 200 + k ∧ grOk G = true ∧ NI w G V xa xn xc ya yn yc va vc wr) (fun _ i_ _ => ln - (intOf i_).toNat)
    case atStart => exact ⟨0, gr, gv, ao, n, cap, ko, kn, kcap, ga, gc, Nat.zero_le _, rfl, rfl, by omega, ho, hNI.on (by with_reducible repeat (first | exact ex_refl _ | exact ex_more | apply ex_alloc | apply ex_plus | apply ex_drew | apply ex_drewN))⟩
    case round =>
      clear hNI hown bA hx c0 c1 lA ii
      obtain ⟨k, G, V, xa, xn, xc, ya, yn, yc, va, vc, hk, rfl, rfl, hV, hok, hI⟩ := hrel
      by_cases hkl : k < ln
      rotate_left
      · have ik : ¬ (k : Int) < (ln : Int) := by omega
        have cA0 := cell_blk (i := 0) hI.box rfl
        have cA1 := cell_blk (i := 1) hI.box rfl
        have lA := hI.lt
        obtain ⟨hs9, hG9⟩ := hI.at hok
        have hx9 := hI.ex
        go_wp2_with (go_at_call 34; refine (plus_post (gnone_calls _ _ _ _ _ _ hs9 G _ (hG9.ex (by with_reducible repeat (first | exact ex_refl _ | exact ex_more | apply ex_alloc | apply ex_plus | apply ex_drew | apply ex_drewN))) hok)).mono ?_; rintro e w' ⟨rfl, nx9, rfl⟩)
        go_ret
        exact ⟨rfl, below_ex (by with_reducible repeat (first | exact ex_refl _ | exact ex_more | apply ex_alloc | apply ex_plus | apply ex_drew | apply ex_drewN | (apply ex_on; assumption)))⟩
      have ik : (k : Int) < (ln : Int) := by omega
      obtain ⟨lg, lo, rfl, hlg, hlc⟩ := hl1.some (by omega)
      obtain ⟨q0, q1, q2, q3⟩ := cellA hlen1 hlc (k := k) hkl
      obtain ⟨hb0, hb1⟩ := hkb k hkl
      generalize nth dAc ls k = ac at *
      obtain ⟨kk, A, B, pos⟩ := ac
      simp only at q0 q1 q2 q3 hb0 hb1
      have hxI := hI.ex
      have c0 := cell_ex hxI q0
      have c1 := cell_ex hxI q1
      have c2 := cell_ex hxI q2
      have c3 := cell_ex hxI q3
      have lL : lg < wr.heap.size := Nat.lt_of_lt_of_le hlg (ex_size hxI)
      clear q0 q1 q2 q3
      go_upto_region 13 with fail
      refine name_world (fun v1 => (∃ y, v1 = plus wr y) ∧ v1.heap[wr.heap.size]? = some (.cells #[.int .u8 kk, .int .i64 A, .int .i64 B, .int .i64 pos] 69)) ⟨(by with_reducible repeat (first | exact ex_refl _ | exact ex_more | apply ex_alloc | apply ex_plus | apply ex_drew | apply ex_drewN)), (by simp only [blk_alloc]; simp [go_sem, ↓IntWalk.iteOmega])⟩ ?_
      rintro v1 ⟨hv1, b9⟩
      have hI1 := hI.on hv1
      have l9 := hI.lt
      clear hI c0 c1 c2 c3 lL hxI hv1
      generalize wr.heap.size = p9 at *
      have n9 := blk_lt b9
      have z0 := cell_blk (i := 0) b9 rfl
      have z1 := cell_blk (i := 1) b9 rfl
      have z2 := cell_blk (i := 2) b9 rfl
      have z3 := cell_blk (i := 3) b9 rfl
      have cA0 := cell_blk (i := 0) hI1.box rfl
      have cA1 := cell_blk (i := 1) hI1.box rfl
      have lA := hI1.lt
      obtain ⟨hs1, hG1⟩ := hI1.at hok
      by_cases hm0 : kk % 5 = 0
      · skip
        by_cases he : makeGErr G = 0
        rotate_left
        · have dE : (makeGErr G == 0) = false := by rw [beq_eq_false_iff_ne]; exact he
          go_wp2_with (go_at_call 18; refine (nmake_is rfl rfl rfl rfl rfl rfl (hG1.ex (by with_reducible repeat (first | exact ex_refl _ | exact ex_more | apply ex_alloc | apply ex_plus | apply ex_drew | apply ex_drewN)))).mono ?_; rintro e w1 ⟨ua, uc, ka, kc, us, rfl, hw1, ox⟩)
          go_roundw
          case rel => exact ⟨k + 1, G, V, xa, xn, xc, ya, yn, yc, va, vc, by omega, rfl, by go_num, by omega, hok, hI1.on (by with_reducible repeat (first | exact ex_refl _ | exact ex_more | apply ex_alloc | apply ex_plus | apply ex_drew | apply ex_drewN | (apply ex_on; assumption)))⟩
          case measure => simp [intOf]; omega
        obtain ⟨R, hR⟩ : ∃ R, makeRes G = R := ⟨_, rfl⟩
        have hRk : grOk R = true := by rw [← hR, makeRes, if_pos he]; exact makeG_ok hok (by rw [makeGErr, if_pos hok] at he; exact he)
        obtain ⟨s', hs'⟩ : ∃ m, makeS G = m := ⟨_, rfl⟩
        obtain ⟨g', hg'⟩ : ∃ m, makeH G = m := ⟨_, rfl⟩
        obtain ⟨n', hn'⟩ : ∃ m, R.sl.length = m := ⟨_, rfl⟩
        obtain ⟨m', hm'⟩ : ∃ m, R.ks.length = m := ⟨_, rfl⟩
        go_upto_region 16 with (go_at_call 18; refine (nmake_is hR hs' hg' he hn' hm' (hG1.ex (by with_reducible repeat (first | exact ex_refl _ | exact ex_more | apply ex_alloc | apply ex_plus | apply ex_drew | apply ex_drewN)))).mono ?_; rintro e w1 ⟨ua, uc, ka, kc, us, rfl, hw1, ox⟩)
        have zw := ex_size hw1
        refine name_world (fun v2 => (∃ y, v2 = plus w1 y) ∧ v2.heap[w1.heap.size]? = some (.cells #[.slice ua n' uc, .slice ka m' kc] 27) ∧ v2.heap[w1.heap.size + 1]? = some (.cells #[.int .i64 s', .int .i64 g'] 29)) ⟨(by with_reducible repeat (first | exact ex_refl _ | exact ex_more | apply ex_alloc | apply ex_plus | apply ex_drew | apply ex_drewN)), (by simp only [blk_alloc]; simp [go_sem, ↓IntWalk.iteOmega]), (by simp only [blk_alloc]; simp [go_sem, ↓IntWalk.iteOmega])⟩ ?_
        rintro v2 ⟨hv2, bX, bH⟩
        have hI2 := hI1.on (ex_on hv2 hw1)
        have ox2 := ox.ex hv2
        clear ox cA0 cA1 z0 z1 z2 z3 hG1
        have w0 := cell_blk (i := 0) bX rfl
        have w1' := cell_blk (i := 1) bX rfl
        have w2 := frozen_blk (i := 0) hI2.box
        have w3 := frozen_blk (i := 1) hI2.box
        have w4 := cell_blk (i := 0) hI2.box rfl
        have w5 := cell_blk (i := 1) hI2.box rfl
        have l2 := hI2.lt
        have nX := blk_lt bX
        have nH := blk_lt bH
        go_upto_region 17 with fail
        refine name_world (fun v3 => NI w R V ua n' uc ka m' kc va vc v3 ∧ GrOwn v1 v3 ua n' uc ka m' kc us R ∧ v3.heap[w1.heap.size + 1]? = some (.cells #[.int .i64 s', .int .i64 g'] 29)) ⟨hI2.setBox (ox2.base (by omega)), (ox2.set_other hI2.box (by decide) (by decide) (by decide)).set_other (blk_set_eq hI2.box) (by decide) (by decide) (by decide), (blk_set_ne (by omega)).trans ((blk_set_ne (by omega)).trans bH)⟩ ?_
        clear w0 w1' w2 w3 w4 w5 l2 nX nH bX bH ox2 hI2
        rintro v3 ⟨hI3, ox3, bH3⟩
        have w0 := cell_blk (i := 0) bH3 rfl
        have w1' := cell_blk (i := 1) bH3 rfl
        have nH := blk_lt bH3
        have l3 := hI3.lt
        have hx3 := hI3.ex
        go_wp2_with (at_builtin; refine wpList_append_lay2 (T := w) rfl _ _ rfl kinH f2_c f2_1 rfl (hI3.on (by with_reducible repeat (first | exact ex_refl _ | exact ex_more | apply ex_alloc | apply ex_plus | apply ex_drew | apply ex_drewN))).ex (hI3.on (by with_reducible repeat (first | exact ex_refl _ | exact ex_more | apply ex_alloc | apply ex_plus | apply ex_drew | apply ex_drewN))).gs rfl (l2 := [(s', g')]) ⟨rfl, .inr ⟨_, 0, rfl, by (simp [go_sem]; try omega), fun jj u hu => by match jj, hu with | 0, hu => (simp [f2] at hu; subst hu; simp [go_sem, ↓IntWalk.iteOmega]) | 1, hu => (simp [f2] at hu; subst hu; simp [go_sem, ↓IntWalk.iteOmega]) | jj + 2, hu => simp [f2] at hu⟩⟩ (by omega) (by decide) ?_; intro va2 vc2 w4 og hx4 hgr4)
        go_roundw
        case rel => exact ⟨k + 1, R, V ++ [(s', g')], ua, n', uc, ka, m', kc, va2, vc2, by omega, by rw [List.length_append]; rfl, by go_num, by rw [List.length_append, List.length_singleton]; omega, hRk, ⟨hx4, grown_blk hgr4 (hI3.on (by with_reducible repeat (first | exact ex_refl _ | exact ex_more | apply ex_alloc | apply ex_plus | apply ex_drew | apply ex_drewN))).gs (hI3.on (by with_reducible repeat (first | exact ex_refl _ | exact ex_more | apply ex_alloc | apply ex_plus | apply ex_drew | apply ex_drewN))).box (by decide), .inr ⟨us, (gr_app (ox3.ex (by with_reducible repeat (first | exact ex_refl _ | exact ex_more | apply ex_alloc | apply ex_plus | apply ex_drew | apply ex_drewN))) (hI3.on (by with_reducible repeat (first | exact ex_refl _ | exact ex_more | apply ex_alloc | apply ex_plus | apply ex_drew | apply ex_drewN))).gs hI1.blk hgr4).base (by omega)⟩, by rw [List.length_append, List.length_singleton]; exact og⟩⟩
        case measure => simp [intOf]; omega
      have dm0 : (kk % 5 == 0) = false := by rw [beq_eq_false_iff_ne]; exact hm0
      by_cases hA0 : A < 0
      · have iA0 := hA0
        go_wp2
        go_roundw
        case rel => exact ⟨k + 1, G, V, xa, xn, xc, ya, yn, yc, va, vc, by omega, rfl, by go_num, by omega, hok, hI1.on (by with_reducible repeat (first | exact ex_refl _ | exact ex_more | apply ex_alloc | apply ex_plus | apply ex_drew | apply ex_drewN))⟩
        case measure => simp [intOf]; omega
      have dA0 := decide_eq_false hA0
      obtain ⟨p, rfl⟩ : ∃ p : Nat, A = (p : Int) := ⟨A.toNat, by omega⟩
      by_cases hp1 : V.length ≤ p
      · have ip1 : (V.length : Int) ≤ (p : Int) := by omega
        go_wp2
        go_roundw
        case rel => exact ⟨k + 1, G, V, xa, xn, xc, ya, yn, yc, va, vc, by omega, rfl, by go_num, by omega, hok, hI1.on (by with_reducible repeat (first | exact ex_refl _ | exact ex_more | apply ex_alloc | apply ex_plus | apply ex_drew | apply ex_drewN))⟩
        case measure => simp [intOf]; omega
      have ip1 : ¬ (V.length : Int) ≤ (p : Int) := by omega
      have dp1 := decide_eq_false ip1
      have hpl : p < V.length := by omega
      have ipl : (p : Int) < (V.length : Int) := by omega
      by_cases hB0 : B < 0
      · have iB0 := hB0
        go_wp2
        go_roundw
        case rel => exact ⟨k + 1, G, V, xa, xn, xc, ya, yn, yc, va, vc, by omega, rfl, by go_num, by omega, hok, hI1.on (by with_reducible repeat (first | exact ex_refl _ | exact ex_more | apply ex_alloc | apply ex_plus | apply ex_drew | apply ex_drewN))⟩
        case measure => simp [intOf]; omega
      have dB0 := decide_eq_false hB0
      obtain ⟨q, rfl⟩ : ∃ q : Nat, B = (q : Int) := ⟨B.toNat, by omega⟩
      by_cases hq1' : V.length ≤ q
      · have iq1 : (V.length : Int) ≤ (q : Int) := by omega
        go_wp2
        go_roundw
        case rel => exact ⟨k + 1, G, V, xa, xn, xc, ya, yn, yc, va, vc, by omega, rfl, by go_num, by omega, hok, hI1.on (by with_reducible repeat (first | exact ex_refl _ | exact ex_more | apply ex_alloc | apply ex_plus | apply ex_drew | apply ex_drewN))⟩
        case measure => simp [intOf]; omega
      have iq1 : ¬ (V.length : Int) ≤ (q : Int) := by omega
      have dq1 := decide_eq_false iq1
      have hql : q < V.length := by omega
      have iql : (q : Int) < (V.length : Int) := by omega
      obtain ⟨gg, rfl, hgg, hgc⟩ := hI1.made hpl
      obtain ⟨g0, g1⟩ := hgc p hpl
      obtain ⟨u0, u1⟩ := hgc q hql
      go_upto_region 20 with fail
      refine name_world (fun v2 => (∃ y, v2 = plus v1 y) ∧ v2.heap[v1.heap.size]? = some (.cells #[.slice xa xn xc, .slice ya yn yc] 27)) ⟨(by with_reducible repeat (first | exact ex_refl _ | exact ex_more | apply ex_alloc | apply ex_plus | apply ex_drew | apply ex_drewN)), (by simp only [blk_alloc]; simp [go_sem, ↓IntWalk.iteOmega])⟩ ?_
      rintro v2 ⟨hv2, b13⟩
      have n13 := blk_lt b13
      obtain ⟨p13, hp13⟩ : ∃ p13, v1.heap.size = p13 := ⟨_, rfl⟩
      rw [hp13] at b13 n13 n9 hgg lA ⊢
      have hB13 : ∀ k, some p13 = some k → v1.heap.size ≤ k := fun k e => by cases e; omega
      have cB0 := cell_ex hv2 cA0
      have cB1 := cell_ex hv2 cA1
      have zB0 := cell_ex hv2 z0
      have lB : p13 ≤ v2.heap.size := by omega
      clear dA0 dB0 dp1 dq1
      generalize hh1 : nth (0, 0) V p = h at *
      generalize hi1 : nth (0, 0) V q = i at *
      have hm6 : kk % 5 = 1 ∨ kk % 5 = 2 ∨ kk % 5 = 3 ∨ kk % 5 = 4 := by omega
      clear hm0 dm0
      rcases hm6 with hm6 | hm6 | hm6 | hm6
      · skip
        obtain ⟨R, hR⟩ : ∃ R, killRG G (h.1, h.2) = R := ⟨_, rfl⟩
        obtain ⟨er, hE⟩ : ∃ er, askErr G (h.1, h.2) (h.1, h.2) = er := ⟨_, rfl⟩
        obtain ⟨n', hn'⟩ : ∃ m, R.sl.length = m := ⟨_, rfl⟩
        obtain ⟨m', hm'⟩ : ∃ m, R.ks.length = m := ⟨_, rfl⟩
        have hRok : er = 0 → grOk R = true := fun he => by rw [← hR, killRG, hE, if_pos he]; exact killG_ok hok (ask_ok (hE.trans he)).2.1
        go_upto_region 23 with fail
        refine region_relD 12 nvkS (nvkΦ w p13 xa ya xn xc yn yc p9 gg V.length vc p q h i pos er n' m' R) (Turn 10 (some p13)) turn_trans (turn_draw _) (by kernel_rfl) (by kernel_rfl) (by decide) (nvkΦ_mono w p13 xa ya xn xc yn yc p9 gg V.length vc p q h i pos er n' m' R) ?steps ?fin
        case steps =>
          refine ⟨?_, ?_, ?_, ?_, ?_, ?_, ?_, ?_, ?_, ?_, ?_, ?_, trivial⟩
          · intro a D w' hg hfree hdeep hD
            obtain ⟨x, rfl⟩ := turn_ex hg hv2 hB13
            have f2_ := hfree 2 (by kernel_rfl)
            simp only [nvkΦ, got] at f2_
            simp [go_sem] at f2_
            unfold Oper.wp
            simp [go_sem, execOp, Act.eval, ↓IntWalk.iteOmega, f2_, cA0, cA1]
            exact ⟨_, rfl, turn_grow (ex_refl _), by simp [nvkΦ, upd]⟩
          · intro a D w' hg hfree hdeep hD
            obtain ⟨x, rfl⟩ := turn_ex hg hv2 hB13
            have f6_ := hfree 6 (by kernel_rfl)
            simp only [nvkΦ, got] at f6_
            simp [go_sem] at f6_
            unfold Oper.wp
            simp [go_sem, execOp, Act.eval, ↓IntWalk.iteOmega, f6_]
            exact ⟨_, rfl, turn_grow (ex_refl _), by simp [nvkΦ, upd]⟩
          · intro a D w' hg hfree hdeep hD
            obtain ⟨x, rfl⟩ := turn_ex hg hv2 hB13
            have f9_ := hfree 9 (by kernel_rfl)
            simp only [nvkΦ, got] at f9_
            simp [go_sem] at f9_
            unfold Oper.wp
            simp [go_sem, execOp, Act.eval, ↓IntWalk.iteOmega, f9_]
            exact ⟨_, rfl, turn_grow (ex_refl _), by simp [nvkΦ, upd]⟩
          · intro a D w' hg hfree hdeep hD
            obtain ⟨x, rfl⟩ := turn_ex hg hv2 hB13
            have d2 := hdeep 2 (by kernel_rfl)
            simp only [nvkΦ, got] at d2
            unfold Oper.wp
            simp [go_sem, execOp, Act.eval, ↓IntWalk.iteOmega, d2, z1]
            exact ⟨_, rfl, turn_grow (ex_refl _), by simp [nvkΦ, upd]⟩
          · intro a D w' hg hfree hdeep hD
            obtain ⟨x, rfl⟩ := turn_ex hg hv2 hB13
            have d1 := hdeep 1 (by kernel_rfl)
            have d3 := hdeep 3 (by kernel_rfl)
            simp only [nvkΦ, got] at d1 d3
            unfold Oper.wp
            simp [go_sem, execOp, Act.eval, ↓IntWalk.iteOmega, d1, d3, ipl]
            exact ⟨_, rfl, turn_grow (ex_refl _), by simp [nvkΦ, upd]⟩
          · intro a D w' hg hfree hdeep hD
            obtain ⟨x, rfl⟩ := turn_ex hg hv2 hB13
            have d4 := hdeep 4 (by kernel_rfl)
            simp only [nvkΦ, got] at d4
            unfold Oper.wp
            simp [go_sem, execOp, Act.eval, ↓IntWalk.iteOmega, d4, g0, g1]
            exact ⟨_, rfl, turn_grow (ex_refl _), by simp [nvkΦ, upd]⟩
          · intro a D w' hg hfree hdeep hD
            obtain ⟨x, rfl⟩ := turn_ex hg hv2 hB13
            have d0 := hdeep 0 (by kernel_rfl)
            have d5 := hdeep 5 (by kernel_rfl)
            simp only [nvkΦ, got] at d0 d5
            unfold Oper.wp
            simp [go_sem, execOp, Act.eval, ↓IntWalk.iteOmega, d0, d5]
            refine (nkill_is (s := h.1) (g := h.2) hR hE hn' hm' (hG1.ex ⟨x, rfl⟩)).mono ?_
            rintro e w1' ⟨ua, uc, ka, kc, us, rfl, hw1', ox'⟩
            exact ⟨_, rfl, turn_grow hw1', ua, uc, ka, kc, us, by simp [upd], fun _ => ox'.base (by rw [plus_size]; omega)⟩
          · intro a D w' hg hfree hdeep hD
            obtain ⟨x, rfl⟩ := turn_ex hg hv2 hB13
            obtain ⟨ua, uc, ka, kc, us, e6, o6⟩ := hdeep 6 (by kernel_rfl)
            simp only [got] at e6
            unfold Oper.wp
            simp [go_sem, execOp, Act.eval, ↓IntWalk.iteOmega, e6]
            exact ⟨_, rfl, turn_grow (ex_refl _), ua, uc, ka, kc, us, by simp [upd], fun hd => o6 (turn_no (turn_grow (d := 10) (gb := some p13) (D := D) (i := 7) (ex_refl (plus v1 x))) hd)⟩
          · intro a D w' hg hfree hdeep hD
            obtain ⟨x, rfl⟩ := turn_ex hg hv2 hB13
            obtain ⟨ua, uc, ka, kc, us, e7, o7⟩ := hdeep 7 (by kernel_rfl)
            simp only [got] at e7
            unfold Oper.wp
            simp [go_sem, execOp, Act.eval, ↓IntWalk.iteOmega, e7]
            exact ⟨_, rfl, turn_grow (ex_refl _), ua, uc, ka, kc, us, by simp [upd], fun hd => o7 (turn_no (turn_grow (d := 10) (gb := some p13) (D := D) (i := 8) (ex_refl (plus v1 x))) hd)⟩
          · intro a D w' hg hfree hdeep hD
            obtain ⟨x, rfl⟩ := turn_ex hg hv2 hB13
            obtain ⟨ua, uc, ka, kc, us, e7, o7⟩ := hdeep 7 (by kernel_rfl)
            simp only [got] at e7
            unfold Oper.wp
            simp [go_sem, execOp, Act.eval, ↓IntWalk.iteOmega, e7]
            exact ⟨_, rfl, turn_grow (ex_refl _), by simp [nvkΦ, upd]⟩
          · intro a D w' hg hfree hdeep hD
            have hD' : D 10 = false := hD
            have f13 := hfree 13 (by kernel_rfl)
            simp only [got] at f13
            simp [go_sem] at f13
            obtain ⟨ua, uc, ka, kc, us, e8, o8⟩ := hdeep 8 (by kernel_rfl)
            simp only [got] at e8
            have oG := o8 hD'
            have bz := turn_still hg (show noneYet 10 = D 10 by rw [hD']; rfl) b13
            have y0 := frozen_blk (i := 0) bz
            have y1 := frozen_blk (i := 1) bz
            have x0 := cell_blk (i := 0) bz rfl
            have x1 := cell_blk (i := 1) bz rfl
            have bz1 := blk_set_eq (i := 0) (u := .slice ua n' uc) bz
            have y2 := frozen_blk (i := 1) bz1
            have x2 := cell_blk (i := 1) bz1 rfl
            unfold Oper.wp
            simp [go_sem, execOp, Act.eval, ↓IntWalk.iteOmega, f13, e8, y0, y1, x0, x1, y2, x2]
            exact ⟨turn_do ((grown_set p13 0 _).trans (grown_set p13 1 _)) hD', undef, also_self' 10, ua, uc, ka, kc, us, blk_set_eq bz1, (oG.set_other bz (by decide) (by decide) (by decide)).set_other bz1 (by decide) (by decide) (by decide)⟩
          · intro a D w' hg hfree hdeep hD
            have d9 := hdeep 9 (by kernel_rfl)
            simp only [nvkΦ, got] at d9
            unfold Oper.wp
            simp [go_sem, execOp, Act.eval, ↓IntWalk.iteOmega, d9]
            exact ⟨_, rfl, turn_grow (ex_refl _), by simp [nvkΦ, upd]⟩
        case fin =>
          rintro t D v4 hall hg hΦ
          obtain ⟨_, ua, uc, ka, kc, us, b4, o4⟩ := hΦ 10 (by decide)
          have r14 := hΦ 11 (by decide)
          simp only [nvkΦ] at r14
          have hx4 := turn_ex hg hv2 hB13
          simp only [putAll, List.take_succ_cons, List.take_zero, List.take_nil, Act.put]
          simp only [List.setIfInBounds_toArray, List.set_cons_succ, List.set_cons_zero, r14]
          simp only [List.drop_succ_cons, List.drop_zero, List.drop_nil]
          have hI4 := hI1.on hx4
          have b94 := blk_ex hx4 b9
          clear hΦ hg hall r14 hx4
          go_upto_region 30 with fail
          by_cases he : er = 0
          rotate_left
          · have dE : (er == 0) = false := by rw [beq_eq_false_iff_ne]; exact he
            go_wp2
            go_roundw
            case rel => exact ⟨k + 1, G, V, xa, xn, xc, ya, yn, yc, some ⟨gg, 0, none⟩, vc, by omega, rfl, by go_num, by omega, hok, hI4.on (by with_reducible repeat (first | exact ex_refl _ | exact ex_more | apply ex_alloc | apply ex_plus | apply ex_drew | apply ex_drewN))⟩
            case measure => simp [intOf]; omega
          have hRk : grOk R = true := hRok he
          subst he
          have hEr : grErr R = 0 := by rw [grErr, if_pos hRk]
          have w0 := cell_blk (i := 0) b4 rfl
          have w1' := cell_blk (i := 1) b4 rfl
          have w2 := frozen_blk (i := 0) hI4.box
          have w3 := frozen_blk (i := 1) hI4.box
          have w4 := cell_blk (i := 0) hI4.box rfl
          have w5 := cell_blk (i := 1) hI4.box rfl
          have l4 := hI4.lt
          have n4 := blk_lt b4
          have hI5 := hI4.setBox o4
          go_upto_region 32 with fail
          refine name_world (fun v5 => NI w R V ua n' uc ka m' kc (some ⟨gg, 0, none⟩) vc v5) hI5 ?_
          clear hI5 w0 w1' w2 w3 w4 w5 l4 n4 o4 b4 hI4
          rintro v5 hI5
          obtain ⟨hs5, hG5⟩ := hI5.at hRk
          have w4 := cell_blk (i := 0) hI5.box rfl
          have w5 := cell_blk (i := 1) hI5.box rfl
          have l5 := hI5.lt
          go_wp2_with (go_at_call 15; refine (plus_post (nref_is hEr _ _ _ _ _ _ hs5 (hG5.ex (by with_reducible repeat (first | exact ex_refl _ | exact ex_more | apply ex_alloc | apply ex_plus | apply ex_drew | apply ex_drewN))))).mono ?_; rintro e w' ⟨rfl, nx, rfl⟩)
          go_roundw
          case rel => exact ⟨k + 1, R, V, ua, n', uc, ka, m', kc, some ⟨gg, 0, none⟩, vc, by omega, rfl, by go_num, by omega, hRk, hI5.on (by with_reducible repeat (first | exact ex_refl _ | exact ex_more | apply ex_alloc | apply ex_plus | apply ex_drew | apply ex_drewN))⟩
          case measure => simp [intOf]; omega
      · skip
        obtain ⟨R, hR⟩ : ∃ R, linkRes G (h.1, h.2) (i.1, i.2) pos = R := ⟨_, rfl⟩
        obtain ⟨er, hE⟩ : ∃ er, linkErr G (h.1, h.2) (i.1, i.2) pos = er := ⟨_, rfl⟩
        obtain ⟨F, hF⟩ : ∃ F, askErr G (i.1, i.2) (h.1, h.2) = F := ⟨_, rfl⟩
        obtain ⟨U, hU⟩ : ∃ U, reachR G (i.1, i.2) (h.1, h.2) = U := ⟨_, rfl⟩
        obtain ⟨n', hn'⟩ : ∃ m, R.sl.length = m := ⟨_, rfl⟩
        obtain ⟨m', hm'⟩ : ∃ m, R.ks.length = m := ⟨_, rfl⟩
        have hRok : er = 0 → grOk R = true := fun he => by rw [← hR, linkRes, hE, if_pos he]; exact linkG_ok (hE.trans he)
        obtain ⟨hL1, hL2⟩ := link_loop (g := G) (a := (h.1, h.2)) (b := (i.1, i.2)) (p := pos) hok
        rw [hE, hF, hU] at hL1 hL2
        go_upto_region 26 with fail
        refine region_relD 19 nvlS (nvlΦ w p13 xa ya xn xc yn yc p9 gg V.length vc p q h i pos er n' m' R) (Turn 17 (some p13)) turn_trans (turn_draw _) (by kernel_rfl) (by kernel_rfl) (by decide) (nvlΦ_mono w p13 xa ya xn xc yn yc p9 gg V.length vc p q h i pos er n' m' R) ?steps ?fin
        case steps =>
          refine ⟨?_, ?_, ?_, ?_, ?_, ?_, ?_, ?_, ?_, ?_, ?_, ?_, ?_, ?_, ?_, ?_, ?_, ?_, ?_, trivial⟩
          · intro a D w' hg hfree hdeep hD
            obtain ⟨x, rfl⟩ := turn_ex hg hv2 hB13
            have f2_ := hfree 2 (by kernel_rfl)
            simp only [nvlΦ, got] at f2_
            simp [go_sem] at f2_
            unfold Oper.wp
            simp [go_sem, execOp, Act.eval, ↓IntWalk.iteOmega, f2_, cA0, cA1]
            exact ⟨_, rfl, turn_grow (ex_refl _), by simp [nvlΦ, upd]⟩
          · intro a D w' hg hfree hdeep hD
            obtain ⟨x, rfl⟩ := turn_ex hg hv2 hB13
            have f6_ := hfree 6 (by kernel_rfl)
            simp only [nvlΦ, got] at f6_
            simp [go_sem] at f6_
            unfold Oper.wp
            simp [go_sem, execOp, Act.eval, ↓IntWalk.iteOmega, f6_]
            exact ⟨_, rfl, turn_grow (ex_refl _), by simp [nvlΦ, upd]⟩
          · intro a D w' hg hfree hdeep hD
            obtain ⟨x, rfl⟩ := turn_ex hg hv2 hB13
            have f9_ := hfree 9 (by kernel_rfl)
            simp only [nvlΦ, got] at f9_
            simp [go_sem] at f9_
            unfold Oper.wp
            simp [go_sem, execOp, Act.eval, ↓IntWalk.iteOmega, f9_]
            exact ⟨_, rfl, turn_grow (ex_refl _), by simp [nvlΦ, upd]⟩
          · intro a D w' hg hfree hdeep hD
            obtain ⟨x, rfl⟩ := turn_ex hg hv2 hB13
            have d2 := hdeep 2 (by kernel_rfl)
            simp only [nvlΦ, got] at d2
            unfold Oper.wp
            simp [go_sem, execOp, Act.eval, ↓IntWalk.iteOmega, d2, z1]
            exact ⟨_, rfl, turn_grow (ex_refl _), by simp [nvlΦ, upd]⟩
          · intro a D w' hg hfree hdeep hD
            obtain ⟨x, rfl⟩ := turn_ex hg hv2 hB13
            have d1 := hdeep 1 (by kernel_rfl)
            have d3 := hdeep 3 (by kernel_rfl)
            simp only [nvlΦ, got] at d1 d3
            unfold Oper.wp
            simp [go_sem, execOp, Act.eval, ↓IntWalk.iteOmega, d1, d3, ipl]
            exact ⟨_, rfl, turn_grow (ex_refl _), by simp [nvlΦ, upd]⟩
          · intro a D w' hg hfree hdeep hD
            obtain ⟨x, rfl⟩ := turn_ex hg hv2 hB13
            have d4 := hdeep 4 (by kernel_rfl)
            simp only [nvlΦ, got] at d4
            unfold Oper.wp
            simp [go_sem, execOp, Act.eval, ↓IntWalk.iteOmega, d4, g0, g1]
            exact ⟨_, rfl, turn_grow (ex_refl _), by simp [nvlΦ, upd]⟩
          · intro a D w' hg hfree hdeep hD
            obtain ⟨x, rfl⟩ := turn_ex hg hv2 hB13
            have f6_ := hfree 6 (by kernel_rfl)
            simp only [nvlΦ, got] at f6_
            simp [go_sem] at f6_
            unfold Oper.wp
            simp [go_sem, execOp, Act.eval, ↓IntWalk.iteOmega, f6_]
            exact ⟨_, rfl, turn_grow (ex_refl _), by simp [nvlΦ, upd]⟩
          · intro a D w' hg hfree hdeep hD
            obtain ⟨x, rfl⟩ := turn_ex hg hv2 hB13
            have f9_ := hfree 9 (by kernel_rfl)
            simp only [nvlΦ, got] at f9_
            simp [go_sem] at f9_
            unfold Oper.wp
            simp [go_sem, execOp, Act.eval, ↓IntWalk.iteOmega, f9_]
            exact ⟨_, rfl, turn_grow (ex_refl _), by simp [nvlΦ, upd]⟩
          · intro a D w' hg hfree hdeep hD
            obtain ⟨x, rfl⟩ := turn_ex hg hv2 hB13
            have d7 := hdeep 7 (by kernel_rfl)
            simp only [nvlΦ, got] at d7
            unfold Oper.wp
            simp [go_sem, execOp, Act.eval, ↓IntWalk.iteOmega, d7, z2]
            exact ⟨_, rfl, turn_grow (ex_refl _), by simp [nvlΦ, upd]⟩
          · intro a D w' hg hfree hdeep hD
            obtain ⟨x, rfl⟩ := turn_ex hg hv2 hB13
            have d6 := hdeep 6 (by kernel_rfl)
            have d8 := hdeep 8 (by kernel_rfl)
            simp only [nvlΦ, got] at d6 d8
            unfold Oper.wp
            simp [go_sem, execOp, Act.eval, ↓IntWalk.iteOmega, d6, d8, iql]
            exact ⟨_, rfl, turn_grow (ex_refl _), by simp [nvlΦ, upd]⟩
          · intro a D w' hg hfree hdeep hD
            obtain ⟨x, rfl⟩ := turn_ex hg hv2 hB13
            have d9 := hdeep 9 (by kernel_rfl)
            simp only [nvlΦ, got] at d9
            unfold Oper.wp
            simp [go_sem, execOp, Act.eval, ↓IntWalk.iteOmega, d9, u0, u1]
            exact ⟨_, rfl, turn_grow (ex_refl _), by simp [nvlΦ, upd]⟩
          · intro a D w' hg hfree hdeep hD
            obtain ⟨x, rfl⟩ := turn_ex hg hv2 hB13
            have f9_ := hfree 9 (by kernel_rfl)
            simp only [nvlΦ, got] at f9_
            simp [go_sem] at f9_
            unfold Oper.wp
            simp [go_sem, execOp, Act.eval, ↓IntWalk.iteOmega, f9_]
            exact ⟨_, rfl, turn_grow (ex_refl _), by simp [nvlΦ, upd]⟩
          · intro a D w' hg hfree hdeep hD
            obtain ⟨x, rfl⟩ := turn_ex hg hv2 hB13
            have d11 := hdeep 11 (by kernel_rfl)
            simp only [nvlΦ, got] at d11
            unfold Oper.wp
            simp [go_sem, execOp, Act.eval, ↓IntWalk.iteOmega, d11, z3]
            exact ⟨_, rfl, turn_grow (ex_refl _), by simp [nvlΦ, upd]⟩
          · intro a D w' hg hfree hdeep hD
            obtain ⟨x, rfl⟩ := turn_ex hg hv2 hB13
            have d0 := hdeep 0 (by kernel_rfl)
            have d5 := hdeep 5 (by kernel_rfl)
            have d10 := hdeep 10 (by kernel_rfl)
            have d12 := hdeep 12 (by kernel_rfl)
            simp only [nvlΦ, got] at d0 d5 d10 d12
            unfold Oper.wp
            simp [go_sem, execOp, Act.eval, ↓IntWalk.iteOmega, d0, d5, d10, d12]
            refine (nlink_is (s := h.1) (g := h.2) (x1 := i.1) (x2 := i.2) hR hE hn' hm' (hG1.ex ⟨x, rfl⟩)).mono ?_
            rintro e w1' ⟨ua, uc, ka, kc, us, rfl, hw1', ox'⟩
            exact ⟨_, rfl, turn_grow hw1', ua, uc, ka, kc, us, by simp [upd], fun _ => ox'.base (by rw [plus_size]; omega)⟩
          · intro a D w' hg hfree hdeep hD
            obtain ⟨x, rfl⟩ := turn_ex hg hv2 hB13
            obtain ⟨ua, uc, ka, kc, us, e13, o13⟩ := hdeep 13 (by kernel_rfl)
            simp only [got] at e13
            unfold Oper.wp
            simp [go_sem, execOp, Act.eval, ↓IntWalk.iteOmega, e13]
            exact ⟨_, rfl, turn_grow (ex_refl _), ua, uc, ka, kc, us, by simp [upd], fun hd => o13 (turn_no (turn_grow (d := 17) (gb := some p13) (D := D) (i := 14) (ex_refl (plus v1 x))) hd)⟩
          · intro a D w' hg hfree hdeep hD
            obtain ⟨x, rfl⟩ := turn_ex hg hv2 hB13
            obtain ⟨ua, uc, ka, kc, us, e14, o14⟩ := hdeep 14 (by kernel_rfl)
            simp only [got] at e14
            unfold Oper.wp
            simp [go_sem, execOp, Act.eval, ↓IntWalk.iteOmega, e14]
            exact ⟨_, rfl, turn_grow (ex_refl _), ua, uc, ka, kc, us, by simp [upd], fun hd => o14 (turn_no (turn_grow (d := 17) (gb := some p13) (D := D) (i := 15) (ex_refl (plus v1 x))) hd)⟩
          · intro a D w' hg hfree hdeep hD
            obtain ⟨x, rfl⟩ := turn_ex hg hv2 hB13
            obtain ⟨ua, uc, ka, kc, us, e14, o14⟩ := hdeep 14 (by kernel_rfl)
            simp only [got] at e14
            unfold Oper.wp
            simp [go_sem, execOp, Act.eval, ↓IntWalk.iteOmega, e14]
            exact ⟨_, rfl, turn_grow (ex_refl _), by simp [nvlΦ, upd]⟩
          · intro a D w' hg hfree hdeep hD
            have hD' : D 17 = false := hD
            have f13 := hfree 13 (by kernel_rfl)
            simp only [got] at f13
            simp [go_sem] at f13
            obtain ⟨ua, uc, ka, kc, us, e8, o8⟩ := hdeep 15 (by kernel_rfl)
            simp only [got] at e8
            have oG := o8 hD'
            have bz := turn_still hg (show noneYet 17 = D 17 by rw [hD']; rfl) b13
            have y0 := frozen_blk (i := 0) bz
            have y1 := frozen_blk (i := 1) bz
            have x0 := cell_blk (i := 0) bz rfl
            have x1 := cell_blk (i := 1) bz rfl
            have bz1 := blk_set_eq (i := 0) (u := .slice ua n' uc) bz
            have y2 := frozen_blk (i := 1) bz1
            have x2 := cell_blk (i := 1) bz1 rfl
            unfold Oper.wp
            simp [go_sem, execOp, Act.eval, ↓IntWalk.iteOmega, f13, e8, y0, y1, x0, x1, y2, x2]
            exact ⟨turn_do ((grown_set p13 0 _).trans (grown_set p13 1 _)) hD', undef, also_self' 17, ua, uc, ka, kc, us, blk_set_eq bz1, (oG.set_other bz (by decide) (by decide) (by decide)).set_other bz1 (by decide) (by decide) (by decide)⟩
          · intro a D w' hg hfree hdeep hD
            have d16 := hdeep 16 (by kernel_rfl)
            simp only [nvlΦ, got] at d16
            unfold Oper.wp
            simp [go_sem, execOp, Act.eval, ↓IntWalk.iteOmega, d16]
            exact ⟨_, rfl, turn_grow (ex_refl _), by simp [nvlΦ, upd]⟩
        case fin =>
          rintro t D v4 hall hg hΦ
          obtain ⟨_, ua, uc, ka, kc, us, b4, o4⟩ := hΦ 17 (by decide)
          have r14 := hΦ 18 (by decide)
          simp only [nvlΦ] at r14
          have hx4 := turn_ex hg hv2 hB13
          simp only [putAll, List.take_succ_cons, List.take_zero, List.take_nil, Act.put]
          simp only [List.setIfInBounds_toArray, List.set_cons_succ, List.set_cons_zero, r14]
          simp only [List.drop_succ_cons, List.drop_zero, List.drop_nil]
          have hI4 := hI1.on hx4
          have b94 := blk_ex hx4 b9
          clear hΦ hg hall r14 hx4
          go_upto_region 27 with fail
          by_cases h60 : er = 60
          · obtain ⟨hF0, hU1⟩ := hL1 h60
            subst h60 hF0 hU1
            clear hL1 hL2
            obtain ⟨hs4, hG4⟩ := hI4.at hok
            obtain ⟨_, ee4, hgg4, hgc4⟩ := hI4.made hpl
            cases ee4
            obtain ⟨s0, s1⟩ := hgc4 p hpl
            obtain ⟨s2, s3⟩ := hgc4 q hql
            rw [hh1] at s0 s1
            rw [hi1] at s2 s3
            have x0 := cell_blk (i := 0) hI4.box rfl
            have x1 := cell_blk (i := 1) hI4.box rfl
            have x4 := cell_blk (i := 1) b94 rfl
            have x5 := cell_blk (i := 2) b94 rfl
            have lx := hI4.lt
            have lx9 := blk_lt b94
            refine region_plus (by kernel_rfl) (by kernel_rfl) ?_
            (repeat (go_big_quiet_step ((go_at_call 31; exact plus_of (nreaches_is (s := i.1) (g := i.2) (i1 := h.1) (i2 := h.2) hU hF (hG4.ex (by with_reducible repeat (first | exact ex_refl _ | exact ex_more | apply ex_alloc | apply ex_plus | apply ex_drew | apply ex_drewN))))))))
            refine wpQuiet_nil ?_
            rintro _ ⟨x2, rfl⟩
            refine name_world (fun v6 => ∃ y, v6 = plus v4 y) (by with_reducible repeat (first | exact ex_refl _ | exact ex_more | apply ex_alloc | apply ex_plus | apply ex_drew | apply ex_drewN)) ?_
            clear s0 s1 s2 s3 x0 x1 x4 x5 hG4 hgc4
            rintro v6 hv6
            replace hI4 := hI4.on hv6
            replace o4 := o4.ex hv6
            replace b4 := blk_ex hv6 b4
            clear b94 hv6 lx lx9
            go_wp2
            go_roundw
            case rel => exact ⟨k + 1, G, V, xa, xn, xc, ya, yn, yc, some ⟨gg, 0, none⟩, vc, by omega, rfl, by go_num, by omega, hok, hI4.on (by with_reducible repeat (first | exact ex_refl _ | exact ex_more | apply ex_alloc | apply ex_plus | apply ex_drew | apply ex_drewN))⟩
            case measure => simp [intOf]; omega
          have d60 : (er == 60) = false := by rw [beq_eq_false_iff_ne]; exact h60
          by_cases he : er = 0
          · obtain ⟨hF0, hU1⟩ := hL2 he
            have hRk : grOk R = true := hRok he
            subst he hF0 hU1
            clear hL1 hL2 d60
            obtain ⟨hs4, hG4⟩ := hI4.at hok
            obtain ⟨_, ee4, hgg4, hgc4⟩ := hI4.made hpl
            cases ee4
            obtain ⟨s0, s1⟩ := hgc4 p hpl
            obtain ⟨s2, s3⟩ := hgc4 q hql
            rw [hh1] at s0 s1
            rw [hi1] at s2 s3
            have x0 := cell_blk (i := 0) hI4.box rfl
            have x1 := cell_blk (i := 1) hI4.box rfl
            have x4 := cell_blk (i := 1) b94 rfl
            have x5 := cell_blk (i := 2) b94 rfl
            have lx := hI4.lt
            have lx9 := blk_lt b94
            refine region_plus (by kernel_rfl) (by kernel_rfl) ?_
            (repeat (go_big_quiet_step ((go_at_call 31; exact plus_of (nreaches_is (s := i.1) (g := i.2) (i1 := h.1) (i2 := h.2) hU hF (hG4.ex (by with_reducible repeat (first | exact ex_refl _ | exact ex_more | apply ex_alloc | apply ex_plus | apply ex_drew | apply ex_drewN))))))))
            refine wpQuiet_nil ?_
            rintro _ ⟨x2, rfl⟩
            refine name_world (fun v6 => ∃ y, v6 = plus v4 y) (by with_reducible repeat (first | exact ex_refl _ | exact ex_more | apply ex_alloc | apply ex_plus | apply ex_drew | apply ex_drewN)) ?_
            clear s0 s1 s2 s3 x0 x1 x4 x5 hG4 hgc4
            rintro v6 hv6
            replace hI4 := hI4.on hv6
            replace o4 := o4.ex hv6
            replace b4 := blk_ex hv6 b4
            clear b94 hv6 lx lx9
            have hEr : grErr R = 0 := by rw [grErr, if_pos hRk]
            have w0 := cell_blk (i := 0) b4 rfl
            have w1' := cell_blk (i := 1) b4 rfl
            have w2 := frozen_blk (i := 0) hI4.box
            have w3 := frozen_blk (i := 1) hI4.box
            have w4 := cell_blk (i := 0) hI4.box rfl
            have w5 := cell_blk (i := 1) hI4.box rfl
            have l4 := hI4.lt
            have n4 := blk_lt b4
            have hI5 := hI4.setBox o4
            go_upto_region 32 with fail
            refine name_world (fun v5 => NI w R V ua n' uc ka m' kc (some ⟨gg, 0, none⟩) vc v5) hI5 ?_
            clear hI5 w0 w1' w2 w3 w4 w5 l4 n4 o4 b4 hI4
            rintro v5 hI5
            obtain ⟨hs5, hG5⟩ := hI5.at hRk
            have w4 := cell_blk (i := 0) hI5.box rfl
            have w5 := cell_blk (i := 1) hI5.box rfl
            have l5 := hI5.lt
            go_wp2_with (go_at_call 15; refine (plus_post (nref_is hEr _ _ _ _ _ _ hs5 (hG5.ex (by with_reducible repeat (first | exact ex_refl _ | exact ex_more | apply ex_alloc | apply ex_plus | apply ex_drew | apply ex_drewN))))).mono ?_; rintro e w' ⟨rfl, nx, rfl⟩)
            go_roundw
            case rel => exact ⟨k + 1, R, V, ua, n', uc, ka, m', kc, some ⟨gg, 0, none⟩, vc, by omega, rfl, by go_num, by omega, hRk, hI5.on (by with_reducible repeat (first | exact ex_refl _ | exact ex_more | apply ex_alloc | apply ex_plus | apply ex_drew | apply ex_drewN))⟩
            case measure => simp [intOf]; omega
          have dE : (er == 0) = false := by rw [beq_eq_false_iff_ne]; exact he
          clear hL1 hL2
          obtain ⟨hs4, hG4⟩ := hI4.at hok
          obtain ⟨_, ee4, hgg4, hgc4⟩ := hI4.made hpl
          cases ee4
          obtain ⟨s0, s1⟩ := hgc4 p hpl
          obtain ⟨s2, s3⟩ := hgc4 q hql
          rw [hh1] at s0 s1
          rw [hi1] at s2 s3
          have x0 := cell_blk (i := 0) hI4.box rfl
          have x1 := cell_blk (i := 1) hI4.box rfl
          have x4 := cell_blk (i := 1) b94 rfl
          have x5 := cell_blk (i := 2) b94 rfl
          have lx := hI4.lt
          have lx9 := blk_lt b94
          refine region_plus (by kernel_rfl) (by kernel_rfl) ?_
          (repeat (go_big_quiet_step ((go_at_call 31; exact plus_of (nreaches_is (s := i.1) (g := i.2) (i1 := h.1) (i2 := h.2) hU hF (hG4.ex (by with_reducible repeat (first | exact ex_refl _ | exact ex_more | apply ex_alloc | apply ex_plus | apply ex_drew | apply ex_drewN))))))))
          refine wpQuiet_nil ?_
          rintro _ ⟨x2, rfl⟩
          refine name_world (fun v6 => ∃ y, v6 = plus v4 y) (by with_reducible repeat (first | exact ex_refl _ | exact ex_more | apply ex_alloc | apply ex_plus | apply ex_drew | apply ex_drewN)) ?_
          clear s0 s1 s2 s3 x0 x1 x4 x5 hG4 hgc4
          rintro v6 hv6
          replace hI4 := hI4.on hv6
          replace o4 := o4.ex hv6
          replace b4 := blk_ex hv6 b4
          clear b94 hv6 lx lx9
          go_wp2
          go_roundw
          case rel => exact ⟨k + 1, G, V, xa, xn, xc, ya, yn, yc, some ⟨gg, 0, none⟩, vc, by omega, rfl, by go_num, by omega, hok, hI4.on (by with_reducible repeat (first | exact ex_refl _ | exact ex_more | apply ex_alloc | apply ex_plus | apply ex_drew | apply ex_drewN))⟩
          case measure => simp [intOf]; omega
      · skip
        obtain ⟨R, hR⟩ : ∃ R, linkRes G (h.1, h.2) (i.1, i.2) pos = R := ⟨_, rfl⟩
        obtain ⟨er, hE⟩ : ∃ er, linkErr G (h.1, h.2) (i.1, i.2) pos = er := ⟨_, rfl⟩
        obtain ⟨F, hF⟩ : ∃ F, askErr G (i.1, i.2) (h.1, h.2) = F := ⟨_, rfl⟩
        obtain ⟨U, hU⟩ : ∃ U, reachR G (i.1, i.2) (h.1, h.2) = U := ⟨_, rfl⟩
        obtain ⟨n', hn'⟩ : ∃ m, R.sl.length = m := ⟨_, rfl⟩
        obtain ⟨m', hm'⟩ : ∃ m, R.ks.length = m := ⟨_, rfl⟩
        have hRok : er = 0 → grOk R = true := fun he => by rw [← hR, linkRes, hE, if_pos he]; exact linkG_ok (hE.trans he)
        obtain ⟨hL1, hL2⟩ := link_loop (g := G) (a := (h.1, h.2)) (b := (i.1, i.2)) (p := pos) hok
        rw [hE, hF, hU] at hL1 hL2
        go_upto_region 26 with fail
        refine region_relD 19 nvlS (nvlΦ w p13 xa ya xn xc yn yc p9 gg V.length vc p q h i pos er n' m' R) (Turn 17 (some p13)) turn_trans (turn_draw _) (by kernel_rfl) (by kernel_rfl) (by decide) (nvlΦ_mono w p13 xa ya xn xc yn yc p9 gg V.length vc p q h i pos er n' m' R) ?steps ?fin
        case steps =>
          refine ⟨?_, ?_, ?_, ?_, ?_, ?_, ?_, ?_, ?_, ?_, ?_, ?_, ?_, ?_, ?_, ?_, ?_, ?_, ?_, trivial⟩
          · intro a D w' hg hfree hdeep hD
            obtain ⟨x, rfl⟩ := turn_ex hg hv2 hB13
            have f2_ := hfree 2 (by kernel_rfl)
            simp only [nvlΦ, got] at f2_
            simp [go_sem] at f2_
            unfold Oper.wp
            simp [go_sem, execOp, Act.eval, ↓IntWalk.iteOmega, f2_, cA0, cA1]
            exact ⟨_, rfl, turn_grow (ex_refl _), by simp [nvlΦ, upd]⟩
          · intro a D w' hg hfree hdeep hD
            obtain ⟨x, rfl⟩ := turn_ex hg hv2 hB13
            have f6_ := hfree 6 (by kernel_rfl)
            simp only [nvlΦ, got] at f6_
            simp [go_sem] at f6_
            unfold Oper.wp
            simp [go_sem, execOp, Act.eval, ↓IntWalk.iteOmega, f6_]
            exact ⟨_, rfl, turn_grow (ex_refl _), by simp [nvlΦ, upd]⟩
          · intro a D w' hg hfree hdeep hD
            obtain ⟨x, rfl⟩ := turn_ex hg hv2 hB13
            have f9_ := hfree 9 (by kernel_rfl)
            simp only [nvlΦ, got] at f9_
            simp [go_sem] at f9_
            unfold Oper.wp
            simp [go_sem, execOp, Act.eval, ↓IntWalk.iteOmega, f9_]
            exact ⟨_, rfl, turn_grow (ex_refl _), by simp [nvlΦ, upd]⟩
          · intro a D w' hg hfree hdeep hD
            obtain ⟨x, rfl⟩ := turn_ex hg hv2 hB13
            have d2 := hdeep 2 (by kernel_rfl)
            simp only [nvlΦ, got] at d2
            unfold Oper.wp
            simp [go_sem, execOp, Act.eval, ↓IntWalk.iteOmega, d2, z1]
            exact ⟨_, rfl, turn_grow (ex_refl _), by simp [nvlΦ, upd]⟩
          · intro a D w' hg hfree hdeep hD
            obtain ⟨x, rfl⟩ := turn_ex hg hv2 hB13
            have d1 := hdeep 1 (by kernel_rfl)
            have d3 := hdeep 3 (by kernel_rfl)
            simp only [nvlΦ, got] at d1 d3
            unfold Oper.wp
            simp [go_sem, execOp, Act.eval, ↓IntWalk.iteOmega, d1, d3, ipl]
            exact ⟨_, rfl, turn_grow (ex_refl _), by simp [nvlΦ, upd]⟩
          · intro a D w' hg hfree hdeep hD
            obtain ⟨x, rfl⟩ := turn_ex hg hv2 hB13
            have d4 := hdeep 4 (by kernel_rfl)
            simp only [nvlΦ, got] at d4
            unfold Oper.wp
            simp [go_sem, execOp, Act.eval, ↓IntWalk.iteOmega, d4, g0, g1]
            exact ⟨_, rfl, turn_grow (ex_refl _), by simp [nvlΦ, upd]⟩
          · intro a D w' hg hfree hdeep hD
            obtain ⟨x, rfl⟩ := turn_ex hg hv2 hB13
            have f6_ := hfree 6 (by kernel_rfl)
            simp only [nvlΦ, got] at f6_
            simp [go_sem] at f6_
            unfold Oper.wp
            simp [go_sem, execOp, Act.eval, ↓IntWalk.iteOmega, f6_]
            exact ⟨_, rfl, turn_grow (ex_refl _), by simp [nvlΦ, upd]⟩
          · intro a D w' hg hfree hdeep hD
            obtain ⟨x, rfl⟩ := turn_ex hg hv2 hB13
            have f9_ := hfree 9 (by kernel_rfl)
            simp only [nvlΦ, got] at f9_
            simp [go_sem] at f9_
            unfold Oper.wp
            simp [go_sem, execOp, Act.eval, ↓IntWalk.iteOmega, f9_]
            exact ⟨_, rfl, turn_grow (ex_refl _), by simp [nvlΦ, upd]⟩
          · intro a D w' hg hfree hdeep hD
            obtain ⟨x, rfl⟩ := turn_ex hg hv2 hB13
            have d7 := hdeep 7 (by kernel_rfl)
            simp only [nvlΦ, got] at d7
            unfold Oper.wp
            simp [go_sem, execOp, Act.eval, ↓IntWalk.iteOmega, d7, z2]
            exact ⟨_, rfl, turn_grow (ex_refl _), by simp [nvlΦ, upd]⟩
          · intro a D w' hg hfree hdeep hD
            obtain ⟨x, rfl⟩ := turn_ex hg hv2 hB13
            have d6 := hdeep 6 (by kernel_rfl)
            have d8 := hdeep 8 (by kernel_rfl)
            simp only [nvlΦ, got] at d6 d8
            unfold Oper.wp
            simp [go_sem, execOp, Act.eval, ↓IntWalk.iteOmega, d6, d8, iql]
            exact ⟨_, rfl, turn_grow (ex_refl _), by simp [nvlΦ, upd]⟩
          · intro a D w' hg hfree hdeep hD
            obtain ⟨x, rfl⟩ := turn_ex hg hv2 hB13
            have d9 := hdeep 9 (by kernel_rfl)
            simp only [nvlΦ, got] at d9
            unfold Oper.wp
            simp [go_sem, execOp, Act.eval, ↓IntWalk.iteOmega, d9, u0, u1]
            exact ⟨_, rfl, turn_grow (ex_refl _), by simp [nvlΦ, upd]⟩
          · intro a D w' hg hfree hdeep hD
            obtain ⟨x, rfl⟩ := turn_ex hg hv2 hB13
            have f9_ := hfree 9 (by kernel_rfl)
            simp only [nvlΦ, got] at f9_
            simp [go_sem] at f9_
            unfold Oper.wp
            simp [go_sem, execOp, Act.eval, ↓IntWalk.iteOmega, f9_]
            exact ⟨_, rfl, turn_grow (ex_refl _), by simp [nvlΦ, upd]⟩
          · intro a D w' hg hfree hdeep hD
            obtain ⟨x, rfl⟩ := turn_ex hg hv2 hB13
            have d11 := hdeep 11 (by kernel_rfl)
            simp only [nvlΦ, got] at d11
            unfold Oper.wp
            simp [go_sem, execOp, Act.eval, ↓IntWalk.iteOmega, d11, z3]
            exact ⟨_, rfl, turn_grow (ex_refl _), by simp [nvlΦ, upd]⟩
          · intro a D w' hg hfree hdeep hD
            obtain ⟨x, rfl⟩ := turn_ex hg hv2 hB13
            have d0 := hdeep 0 (by kernel_rfl)
            have d5 := hdeep 5 (by kernel_rfl)
            have d10 := hdeep 10 (by kernel_rfl)
            have d12 := hdeep 12 (by kernel_rfl)
            simp only [nvlΦ, got] at d0 d5 d10 d12
            unfold Oper.wp
            simp [go_sem, execOp, Act.eval, ↓IntWalk.iteOmega, d0, d5, d10, d12]
            refine (nlink_is (s := h.1) (g := h.2) (x1 := i.1) (x2 := i.2) hR hE hn' hm' (hG1.ex ⟨x, rfl⟩)).mono ?_
            rintro e w1' ⟨ua, uc, ka, kc, us, rfl, hw1', ox'⟩
            exact ⟨_, rfl, turn_grow hw1', ua, uc, ka, kc, us, by simp [upd], fun _ => ox'.base (by rw [plus_size]; omega)⟩
          · intro a D w' hg hfree hdeep hD
            obtain ⟨x, rfl⟩ := turn_ex hg hv2 hB13
            obtain ⟨ua, uc, ka, kc, us, e13, o13⟩ := hdeep 13 (by kernel_rfl)
            simp only [got] at e13
            unfold Oper.wp
            simp [go_sem, execOp, Act.eval, ↓IntWalk.iteOmega, e13]
            exact ⟨_, rfl, turn_grow (ex_refl _), ua, uc, ka, kc, us, by simp [upd], fun hd => o13 (turn_no (turn_grow (d := 17) (gb := some p13) (D := D) (i := 14) (ex_refl (plus v1 x))) hd)⟩
          · intro a D w' hg hfree hdeep hD
            obtain ⟨x, rfl⟩ := turn_ex hg hv2 hB13
            obtain ⟨ua, uc, ka, kc, us, e14, o14⟩ := hdeep 14 (by kernel_rfl)
            simp only [got] at e14
            unfold Oper.wp
            simp [go_sem, execOp, Act.eval, ↓IntWalk.iteOmega, e14]
            exact ⟨_, rfl, turn_grow (ex_refl _), ua, uc, ka, kc, us, by simp [upd], fun hd => o14 (turn_no (turn_grow (d := 17) (gb := some p13) (D := D) (i := 15) (ex_refl (plus v1 x))) hd)⟩
          · intro a D w' hg hfree hdeep hD
            obtain ⟨x, rfl⟩ := turn_ex hg hv2 hB13
            obtain ⟨ua, uc, ka, kc, us, e14, o14⟩ := hdeep 14 (by kernel_rfl)
            simp only [got] at e14
            unfold Oper.wp
            simp [go_sem, execOp, Act.eval, ↓IntWalk.iteOmega, e14]
            exact ⟨_, rfl, turn_grow (ex_refl _), by simp [nvlΦ, upd]⟩
          · intro a D w' hg hfree hdeep hD
            have hD' : D 17 = false := hD
            have f13 := hfree 13 (by kernel_rfl)
            simp only [got] at f13
            simp [go_sem] at f13
            obtain ⟨ua, uc, ka, kc, us, e8, o8⟩ := hdeep 15 (by kernel_rfl)
            simp only [got] at e8
            have oG := o8 hD'
            have bz := turn_still hg (show noneYet 17 = D 17 by rw [hD']; rfl) b13
            have y0 := frozen_blk (i := 0) bz
            have y1 := frozen_blk (i := 1) bz
            have x0 := cell_blk (i := 0) bz rfl
            have x1 := cell_blk (i := 1) bz rfl
            have bz1 := blk_set_eq (i := 0) (u := .slice ua n' uc) bz
            have y2 := frozen_blk (i := 1) bz1
            have x2 := cell_blk (i := 1) bz1 rfl
            unfold Oper.wp
            simp [go_sem, execOp, Act.eval, ↓IntWalk.iteOmega, f13, e8, y0, y1, x0, x1, y2, x2]
            exact ⟨turn_do ((grown_set p13 0 _).trans (grown_set p13 1 _)) hD', undef, also_self' 17, ua, uc, ka, kc, us, blk_set_eq bz1, (oG.set_other bz (by decide) (by decide) (by decide)).set_other bz1 (by decide) (by decide) (by decide)⟩
          · intro a D w' hg hfree hdeep hD
            have d16 := hdeep 16 (by kernel_rfl)
            simp only [nvlΦ, got] at d16
            unfold Oper.wp
            simp [go_sem, execOp, Act.eval, ↓IntWalk.iteOmega, d16]
            exact ⟨_, rfl, turn_grow (ex_refl _), by simp [nvlΦ, upd]⟩
        case fin =>
          rintro t D v4 hall hg hΦ
          obtain ⟨_, ua, uc, ka, kc, us, b4, o4⟩ := hΦ 17 (by decide)
          have r14 := hΦ 18 (by decide)
          simp only [nvlΦ] at r14
          have hx4 := turn_ex hg hv2 hB13
          simp only [putAll, List.take_succ_cons, List.take_zero, List.take_nil, Act.put]
          simp only [List.setIfInBounds_toArray, List.set_cons_succ, List.set_cons_zero, r14]
          simp only [List.drop_succ_cons, List.drop_zero, List.drop_nil]
          have hI4 := hI1.on hx4
          have b94 := blk_ex hx4 b9
          clear hΦ hg hall r14 hx4
          go_upto_region 27 with fail
          by_cases h60 : er = 60
          · obtain ⟨hF0, hU1⟩ := hL1 h60
            subst h60 hF0 hU1
            clear hL1 hL2
            obtain ⟨hs4, hG4⟩ := hI4.at hok
            obtain ⟨_, ee4, hgg4, hgc4⟩ := hI4.made hpl
            cases ee4
            obtain ⟨s0, s1⟩ := hgc4 p hpl
            obtain ⟨s2, s3⟩ := hgc4 q hql
            rw [hh1] at s0 s1
            rw [hi1] at s2 s3
            have x0 := cell_blk (i := 0) hI4.box rfl
            have x1 := cell_blk (i := 1) hI4.box rfl
            have x4 := cell_blk (i := 1) b94 rfl
            have x5 := cell_blk (i := 2) b94 rfl
            have lx := hI4.lt
            have lx9 := blk_lt b94
            refine region_plus (by kernel_rfl) (by kernel_rfl) ?_
            (repeat (go_big_quiet_step ((go_at_call 31; exact plus_of (nreaches_is (s := i.1) (g := i.2) (i1 := h.1) (i2 := h.2) hU hF (hG4.ex (by with_reducible repeat (first | exact ex_refl _ | exact ex_more | apply ex_alloc | apply ex_plus | apply ex_drew | apply ex_drewN))))))))
            refine wpQuiet_nil ?_
            rintro _ ⟨x2, rfl⟩
            refine name_world (fun v6 => ∃ y, v6 = plus v4 y) (by with_reducible repeat (first | exact ex_refl _ | exact ex_more | apply ex_alloc | apply ex_plus | apply ex_drew | apply ex_drewN)) ?_
            clear s0 s1 s2 s3 x0 x1 x4 x5 hG4 hgc4
            rintro v6 hv6
            replace hI4 := hI4.on hv6
            replace o4 := o4.ex hv6
            replace b4 := blk_ex hv6 b4
            clear b94 hv6 lx lx9
            go_wp2
            go_roundw
            case rel => exact ⟨k + 1, G, V, xa, xn, xc, ya, yn, yc, some ⟨gg, 0, none⟩, vc, by omega, rfl, by go_num, by omega, hok, hI4.on (by with_reducible repeat (first | exact ex_refl _ | exact ex_more | apply ex_alloc | apply ex_plus | apply ex_drew | apply ex_drewN))⟩
            case measure => simp [intOf]; omega
          have d60 : (er == 60) = false := by rw [beq_eq_false_iff_ne]; exact h60
          by_cases he : er = 0
          · obtain ⟨hF0, hU1⟩ := hL2 he
            have hRk : grOk R = true := hRok he
            subst he hF0 hU1
            clear hL1 hL2 d60
            obtain ⟨hs4, hG4⟩ := hI4.at hok
            obtain ⟨_, ee4, hgg4, hgc4⟩ := hI4.made hpl
            cases ee4
            obtain ⟨s0, s1⟩ := hgc4 p hpl
            obtain ⟨s2, s3⟩ := hgc4 q hql
            rw [hh1] at s0 s1
            rw [hi1] at s2 s3
            have x0 := cell_blk (i := 0) hI4.box rfl
            have x1 := cell_blk (i := 1) hI4.box rfl
            have x4 := cell_blk (i := 1) b94 rfl
            have x5 := cell_blk (i := 2) b94 rfl
            have lx := hI4.lt
            have lx9 := blk_lt b94
            refine region_plus (by kernel_rfl) (by kernel_rfl) ?_
            (repeat (go_big_quiet_step ((go_at_call 31; exact plus_of (nreaches_is (s := i.1) (g := i.2) (i1 := h.1) (i2 := h.2) hU hF (hG4.ex (by with_reducible repeat (first | exact ex_refl _ | exact ex_more | apply ex_alloc | apply ex_plus | apply ex_drew | apply ex_drewN))))))))
            refine wpQuiet_nil ?_
            rintro _ ⟨x2, rfl⟩
            refine name_world (fun v6 => ∃ y, v6 = plus v4 y) (by with_reducible repeat (first | exact ex_refl _ | exact ex_more | apply ex_alloc | apply ex_plus | apply ex_drew | apply ex_drewN)) ?_
            clear s0 s1 s2 s3 x0 x1 x4 x5 hG4 hgc4
            rintro v6 hv6
            replace hI4 := hI4.on hv6
            replace o4 := o4.ex hv6
            replace b4 := blk_ex hv6 b4
            clear b94 hv6 lx lx9
            have hEr : grErr R = 0 := by rw [grErr, if_pos hRk]
            have w0 := cell_blk (i := 0) b4 rfl
            have w1' := cell_blk (i := 1) b4 rfl
            have w2 := frozen_blk (i := 0) hI4.box
            have w3 := frozen_blk (i := 1) hI4.box
            have w4 := cell_blk (i := 0) hI4.box rfl
            have w5 := cell_blk (i := 1) hI4.box rfl
            have l4 := hI4.lt
            have n4 := blk_lt b4
            have hI5 := hI4.setBox o4
            go_upto_region 32 with fail
            refine name_world (fun v5 => NI w R V ua n' uc ka m' kc (some ⟨gg, 0, none⟩) vc v5) hI5 ?_
            clear hI5 w0 w1' w2 w3 w4 w5 l4 n4 o4 b4 hI4
            rintro v5 hI5
            obtain ⟨hs5, hG5⟩ := hI5.at hRk
            have w4 := cell_blk (i := 0) hI5.box rfl
            have w5 := cell_blk (i := 1) hI5.box rfl
            have l5 := hI5.lt
            go_wp2_with (go_at_call 15; refine (plus_post (nref_is hEr _ _ _ _ _ _ hs5 (hG5.ex (by with_reducible repeat (first | exact ex_refl _ | exact ex_more | apply ex_alloc | apply ex_plus | apply ex_drew | apply ex_drewN))))).mono ?_; rintro e w' ⟨rfl, nx, rfl⟩)
            go_roundw
            case rel => exact ⟨k + 1, R, V, ua, n', uc, ka, m', kc, some ⟨gg, 0, none⟩, vc, by omega, rfl, by go_num, by omega, hRk, hI5.on (by with_reducible repeat (first | exact ex_refl _ | exact ex_more | apply ex_alloc | apply ex_plus | apply ex_drew | apply ex_drewN))⟩
            case measure => simp [intOf]; omega
          have dE : (er == 0) = false := by rw [beq_eq_false_iff_ne]; exact he
          clear hL1 hL2
          obtain ⟨hs4, hG4⟩ := hI4.at hok
          obtain ⟨_, ee4, hgg4, hgc4⟩ := hI4.made hpl
          cases ee4
          obtain ⟨s0, s1⟩ := hgc4 p hpl
          obtain ⟨s2, s3⟩ := hgc4 q hql
          rw [hh1] at s0 s1
          rw [hi1] at s2 s3
          have x0 := cell_blk (i := 0) hI4.box rfl
          have x1 := cell_blk (i := 1) hI4.box rfl
          have x4 := cell_blk (i := 1) b94 rfl
          have x5 := cell_blk (i := 2) b94 rfl
          have lx := hI4.lt
          have lx9 := blk_lt b94
          refine region_plus (by kernel_rfl) (by kernel_rfl) ?_
          (repeat (go_big_quiet_step ((go_at_call 31; exact plus_of (nreaches_is (s := i.1) (g := i.2) (i1 := h.1) (i2 := h.2) hU hF (hG4.ex (by with_reducible repeat (first | exact ex_refl _ | exact ex_more | apply ex_alloc | apply ex_plus | apply ex_drew | apply ex_drewN))))))))
          refine wpQuiet_nil ?_
          rintro _ ⟨x2, rfl⟩
          refine name_world (fun v6 => ∃ y, v6 = plus v4 y) (by with_reducible repeat (first | exact ex_refl _ | exact ex_more | apply ex_alloc | apply ex_plus | apply ex_drew | apply ex_drewN)) ?_
          clear s0 s1 s2 s3 x0 x1 x4 x5 hG4 hgc4
          rintro v6 hv6
          replace hI4 := hI4.on hv6
          replace o4 := o4.ex hv6
          replace b4 := blk_ex hv6 b4
          clear b94 hv6 lx lx9
          go_wp2
          go_roundw
          case rel => exact ⟨k + 1, G, V, xa, xn, xc, ya, yn, yc, some ⟨gg, 0, none⟩, vc, by omega, rfl, by go_num, by omega, hok, hI4.on (by with_reducible repeat (first | exact ex_refl _ | exact ex_more | apply ex_alloc | apply ex_plus | apply ex_drew | apply ex_drewN))⟩
          case measure => simp [intOf]; omega
      · skip
        obtain ⟨R, hR⟩ : ∃ R, unlinkRes G (h.1, h.2) pos = R := ⟨_, rfl⟩
        obtain ⟨er, hE⟩ : ∃ er, unlinkErr G (h.1, h.2) pos = er := ⟨_, rfl⟩
        obtain ⟨n', hn'⟩ : ∃ m, R.sl.length = m := ⟨_, rfl⟩
        obtain ⟨m', hm'⟩ : ∃ m, R.ks.length = m := ⟨_, rfl⟩
        have hRok : er = 0 → grOk R = true := fun he => by rw [← hR, unlinkRes, hE, if_pos he]; exact unlinkG_ok hok
        go_upto_region 21 with fail
        refine region_relD 14 nvuS (nvuΦ w p13 xa ya xn xc yn yc p9 gg V.length vc p q h i pos er n' m' R) (Turn 12 (some p13)) turn_trans (turn_draw _) (by kernel_rfl) (by kernel_rfl) (by decide) (nvuΦ_mono w p13 xa ya xn xc yn yc p9 gg V.length vc p q h i pos er n' m' R) ?steps ?fin
        case steps =>
          refine ⟨?_, ?_, ?_, ?_, ?_, ?_, ?_, ?_, ?_, ?_, ?_, ?_, ?_, ?_, trivial⟩
          · intro a D w' hg hfree hdeep hD
            obtain ⟨x, rfl⟩ := turn_ex hg hv2 hB13
            have f2_ := hfree 2 (by kernel_rfl)
            simp only [nvuΦ, got] at f2_
            simp [go_sem] at f2_
            unfold Oper.wp
            simp [go_sem, execOp, Act.eval, ↓IntWalk.iteOmega, f2_, cA0, cA1]
            exact ⟨_, rfl, turn_grow (ex_refl _), by simp [nvuΦ, upd]⟩
          · intro a D w' hg hfree hdeep hD
            obtain ⟨x, rfl⟩ := turn_ex hg hv2 hB13
            have f6_ := hfree 6 (by kernel_rfl)
            simp only [nvuΦ, got] at f6_
            simp [go_sem] at f6_
            unfold Oper.wp
            simp [go_sem, execOp, Act.eval, ↓IntWalk.iteOmega, f6_]
            exact ⟨_, rfl, turn_grow (ex_refl _), by simp [nvuΦ, upd]⟩
          · intro a D w' hg hfree hdeep hD
            obtain ⟨x, rfl⟩ := turn_ex hg hv2 hB13
            have f9_ := hfree 9 (by kernel_rfl)
            simp only [nvuΦ, got] at f9_
            simp [go_sem] at f9_
            unfold Oper.wp
            simp [go_sem, execOp, Act.eval, ↓IntWalk.iteOmega, f9_]
            exact ⟨_, rfl, turn_grow (ex_refl _), by simp [nvuΦ, upd]⟩
          · intro a D w' hg hfree hdeep hD
            obtain ⟨x, rfl⟩ := turn_ex hg hv2 hB13
            have d2 := hdeep 2 (by kernel_rfl)
            simp only [nvuΦ, got] at d2
            unfold Oper.wp
            simp [go_sem, execOp, Act.eval, ↓IntWalk.iteOmega, d2, z1]
            exact ⟨_, rfl, turn_grow (ex_refl _), by simp [nvuΦ, upd]⟩
          · intro a D w' hg hfree hdeep hD
            obtain ⟨x, rfl⟩ := turn_ex hg hv2 hB13
            have d1 := hdeep 1 (by kernel_rfl)
            have d3 := hdeep 3 (by kernel_rfl)
            simp only [nvuΦ, got] at d1 d3
            unfold Oper.wp
            simp [go_sem, execOp, Act.eval, ↓IntWalk.iteOmega, d1, d3, ipl]
            exact ⟨_, rfl, turn_grow (ex_refl _), by simp [nvuΦ, upd]⟩
          · intro a D w' hg hfree hdeep hD
            obtain ⟨x, rfl⟩ := turn_ex hg hv2 hB13
            have d4 := hdeep 4 (by kernel_rfl)
            simp only [nvuΦ, got] at d4
            unfold Oper.wp
            simp [go_sem, execOp, Act.eval, ↓IntWalk.iteOmega, d4, g0, g1]
            exact ⟨_, rfl, turn_grow (ex_refl _), by simp [nvuΦ, upd]⟩
          · intro a D w' hg hfree hdeep hD
            obtain ⟨x, rfl⟩ := turn_ex hg hv2 hB13
            have f9_ := hfree 9 (by kernel_rfl)
            simp only [nvuΦ, got] at f9_
            simp [go_sem] at f9_
            unfold Oper.wp
            simp [go_sem, execOp, Act.eval, ↓IntWalk.iteOmega, f9_]
            exact ⟨_, rfl, turn_grow (ex_refl _), by simp [nvuΦ, upd]⟩
          · intro a D w' hg hfree hdeep hD
            obtain ⟨x, rfl⟩ := turn_ex hg hv2 hB13
            have d6 := hdeep 6 (by kernel_rfl)
            simp only [nvuΦ, got] at d6
            unfold Oper.wp
            simp [go_sem, execOp, Act.eval, ↓IntWalk.iteOmega, d6, z3]
            exact ⟨_, rfl, turn_grow (ex_refl _), by simp [nvuΦ, upd]⟩
          · intro a D w' hg hfree hdeep hD
            obtain ⟨x, rfl⟩ := turn_ex hg hv2 hB13
            have d0 := hdeep 0 (by kernel_rfl)
            have d5 := hdeep 5 (by kernel_rfl)
            have d7 := hdeep 7 (by kernel_rfl)
            simp only [nvuΦ, got] at d0 d5 d7
            unfold Oper.wp
            simp [go_sem, execOp, Act.eval, ↓IntWalk.iteOmega, d0, d5, d7]
            refine (nunlink_at (s := h.1) (g := h.2) hR hE hn' hm' (hG1.ex ⟨x, rfl⟩)).mono ?_
            rintro e w1' ⟨ua, uc, ka, kc, us, rfl, hw1', ox'⟩
            exact ⟨_, rfl, turn_grow hw1', ua, uc, ka, kc, us, by simp [upd], fun _ => ox'.base (by rw [plus_size]; omega)⟩
          · intro a D w' hg hfree hdeep hD
            obtain ⟨x, rfl⟩ := turn_ex hg hv2 hB13
            obtain ⟨ua, uc, ka, kc, us, e8, o8⟩ := hdeep 8 (by kernel_rfl)
            simp only [got] at e8
            unfold Oper.wp
            simp [go_sem, execOp, Act.eval, ↓IntWalk.iteOmega, e8]
            exact ⟨_, rfl, turn_grow (ex_refl _), ua, uc, ka, kc, us, by simp [upd], fun hd => o8 (turn_no (turn_grow (d := 12) (gb := some p13) (D := D) (i := 9) (ex_refl (plus v1 x))) hd)⟩
          · intro a D w' hg hfree hdeep hD
            obtain ⟨x, rfl⟩ := turn_ex hg hv2 hB13
            obtain ⟨ua, uc, ka, kc, us, e9, o9⟩ := hdeep 9 (by kernel_rfl)
            simp only [got] at e9
            unfold Oper.wp
            simp [go_sem, execOp, Act.eval, ↓IntWalk.iteOmega, e9]
            exact ⟨_, rfl, turn_grow (ex_refl _), ua, uc, ka, kc, us, by simp [upd], fun hd => o9 (turn_no (turn_grow (d := 12) (gb := some p13) (D := D) (i := 10) (ex_refl (plus v1 x))) hd)⟩
          · intro a D w' hg hfree hdeep hD
            obtain ⟨x, rfl⟩ := turn_ex hg hv2 hB13
            obtain ⟨ua, uc, ka, kc, us, e9, o9⟩ := hdeep 9 (by kernel_rfl)
            simp only [got] at e9
            unfold Oper.wp
            simp [go_sem, execOp, Act.eval, ↓IntWalk.iteOmega, e9]
            exact ⟨_, rfl, turn_grow (ex_refl _), by simp [nvuΦ, upd]⟩
          · intro a D w' hg hfree hdeep hD
            have hD' : D 12 = false := hD
            have f13 := hfree 13 (by kernel_rfl)
            simp only [got] at f13
            simp [go_sem] at f13
            obtain ⟨ua, uc, ka, kc, us, e8, o8⟩ := hdeep 10 (by kernel_rfl)
            simp only [got] at e8
            have oG := o8 hD'
            have bz := turn_still hg (show noneYet 12 = D 12 by rw [hD']; rfl) b13
            have y0 := frozen_blk (i := 0) bz
            have y1 := frozen_blk (i := 1) bz
            have x0 := cell_blk (i := 0) bz rfl
            have x1 := cell_blk (i := 1) bz rfl
            have bz1 := blk_set_eq (i := 0) (u := .slice ua n' uc) bz
            have y2 := frozen_blk (i := 1) bz1
            have x2 := cell_blk (i := 1) bz1 rfl
            unfold Oper.wp
            simp [go_sem, execOp, Act.eval, ↓IntWalk.iteOmega, f13, e8, y0, y1, x0, x1, y2, x2]
            exact ⟨turn_do ((grown_set p13 0 _).trans (grown_set p13 1 _)) hD', undef, also_self' 12, ua, uc, ka, kc, us, blk_set_eq bz1, (oG.set_other bz (by decide) (by decide) (by decide)).set_other bz1 (by decide) (by decide) (by decide)⟩
          · intro a D w' hg hfree hdeep hD
            have d11 := hdeep 11 (by kernel_rfl)
            simp only [nvuΦ, got] at d11
            unfold Oper.wp
            simp [go_sem, execOp, Act.eval, ↓IntWalk.iteOmega, d11]
            exact ⟨_, rfl, turn_grow (ex_refl _), by simp [nvuΦ, upd]⟩
        case fin =>
          rintro t D v4 hall hg hΦ
          obtain ⟨_, ua, uc, ka, kc, us, b4, o4⟩ := hΦ 12 (by decide)
          have r14 := hΦ 13 (by decide)
          simp only [nvuΦ] at r14
          have hx4 := turn_ex hg hv2 hB13
          simp only [putAll, List.take_succ_cons, List.take_zero, List.take_nil, Act.put]
          simp only [List.setIfInBounds_toArray, List.set_cons_succ, List.set_cons_zero, r14]
          simp only [List.drop_succ_cons, List.drop_zero, List.drop_nil]
          have hI4 := hI1.on hx4
          have b94 := blk_ex hx4 b9
          clear hΦ hg hall r14 hx4
          go_upto_region 30 with fail
          by_cases he : er = 0
          rotate_left
          · have dE : (er == 0) = false := by rw [beq_eq_false_iff_ne]; exact he
            go_wp2
            go_roundw
            case rel => exact ⟨k + 1, G, V, xa, xn, xc, ya, yn, yc, some ⟨gg, 0, none⟩, vc, by omega, rfl, by go_num, by omega, hok, hI4.on (by with_reducible repeat (first | exact ex_refl _ | exact ex_more | apply ex_alloc | apply ex_plus | apply ex_drew | apply ex_drewN))⟩
            case measure => simp [intOf]; omega
          have hRk : grOk R = true := hRok he
          subst he
          have hEr : grErr R = 0 := by rw [grErr, if_pos hRk]
          have w0 := cell_blk (i := 0) b4 rfl
          have w1' := cell_blk (i := 1) b4 rfl
          have w2 := frozen_blk (i := 0) hI4.box
          have w3 := frozen_blk (i := 1) hI4.box
          have w4 := cell_blk (i := 0) hI4.box rfl
          have w5 := cell_blk (i := 1) hI4.box rfl
          have l4 := hI4.lt
          have n4 := blk_lt b4
          have hI5 := hI4.setBox o4
          go_upto_region 32 with fail
          refine name_world (fun v5 => NI w R V ua n' uc ka m' kc (some ⟨gg, 0, none⟩) vc v5) hI5 ?_
          clear hI5 w0 w1' w2 w3 w4 w5 l4 n4 o4 b4 hI4
          rintro v5 hI5
          obtain ⟨hs5, hG5⟩ := hI5.at hRk
          have w4 := cell_blk (i := 0) hI5.box rfl
          have w5 := cell_blk (i := 1) hI5.box rfl
          have l5 := hI5.lt
          go_wp2_with (go_at_call 15; refine (plus_post (nref_is hEr _ _ _ _ _ _ hs5 (hG5.ex (by with_reducible repeat (first | exact ex_refl _ | exact ex_more | apply ex_alloc | apply ex_plus | apply ex_drew | apply ex_drewN))))).mono ?_; rintro e w' ⟨rfl, nx, rfl⟩)
          go_roundw
          case rel => exact ⟨k + 1, R, V, ua, n', uc, ka, m', kc, some ⟨gg, 0, none⟩, vc, by omega, rfl, by go_num, by omega, hRk, hI5.on (by with_reducible repeat (first | exact ex_refl _ | exact ex_more | apply ex_alloc | apply ex_plus | apply ex_drew | apply ex_drewN))⟩
          case measure => simp [intOf]; omega

set_option maxRecDepth 100000 in
theorem nodesNever_lifted (os : Os) (started : os.Started) (H : Type) (enc : TypeId × Value → H) :
    ReturnsInHanded {} Try.checked os 6 .any (Rows.nodesNeverSpec.pre6 enc Try.prog Try.f6 Rows.nodesNeverRow.domain false) (Rows.nodesNeverSpec.post enc Try.prog Try.f6 false true false false) := by
  refine returnsInHanded_of_change_sized (C := Try.checked) own started (by kernel_rfl) Try.func6
    (ChangeSpec.witness6 (enc := enc) (C := Try.checked) false ⟨#[], #[.agg #[.slice none 0 0, .slice none 0 0], .slice none 0 0], []⟩ 8 (by kernel_rfl) (by kernel_rfl) (by kernel_rfl) (by kernel_rfl)) ?_
  intro W base args ds gs before hval0 hW hcnd hsz _
  have hval : ∀ (j : Nat) t v, Try.f6.params[j]? = some t → args[j]? = some v → Value.okWide Try.prog W .any base t v := hval0
  have hW' := hW
  obtain ⟨p, q, hA0, hV, rfl, hfz, hnd⟩ := hW
  have hA : DataW.TrodAll enc Try.prog W 0 (fun _ => true) true Try.f6.params.toList args.toList ds p := hA0
  rw [Try.params6] at hA hval
  obtain ⟨v0, vs0, d0, ds0, p0, q0, hargs, rfl, rfl, h0, r0⟩ := trodAll_cons hA
  obtain ⟨v1, vs1, d1, ds1, p1, q1, rfl, rfl, rfl, h1, r1⟩ := trodAll_cons r0
  obtain ⟨rfl, rfl, rfl⟩ := trodAll_nil r1
  obtain rfl : args = #[v0, v1] := by cases args; simp_all
  obtain ⟨ao0, n0, cap0, ko0, kn0, kcap0, hs0, g0, rfl, hG0⟩ := open_graph Try.underlying27 (by kernel_rfl) (by kernel_rfl) Try.underlying24 (by kernel_rfl) Try.underlying22 (by kernel_rfl) Try.underlying67 (by kernel_rfl) Try.underlying3 Try.underlying4 Try.underlying25 (by kernel_rfl) Try.underlying36 (by kernel_rfl) (by kernel_rfl) (by kernel_rfl) (sm_of hsz (j := 0) (by kernel_rfl) rfl) (hval 0 27 v0 rfl rfl) h0
  obtain ⟨fu1, x1, hx1⟩ := slice_cell Try.underlying65 (hval 1 65 v1 rfl rfl) h1
  obtain ⟨ao1, n1, cap1, rfl, hn1, _, ho1⟩ := open_sl (c := 4) Try.underlying65 (by kernel_rfl) (by decide) hx1
  obtain ⟨l1, hl1, hk1⟩ := lay_acts Try.underlying69 (by kernel_rfl) Try.underlying5 Try.underlying3 Try.underlying3 Try.underlying3 ho1
  refine (nodesNever_walk ao0 n0 cap0 ko0 kn0 kcap0 hs0 g0 ao1 n1 cap1 l1  W hG0 hn1 hl1 hk1).mono fun e W' ⟨he, hb⟩ => ?_
  exact ⟨_, he, law_post laidOut Try.underlying4 rfl (by kernel_rfl) (by kernel_rfl) (fun ds h => match ds, h with | [_, _], _ => rfl) hW' hb⟩

theorem nodesNever_holds : Rows.NodesNeverSaid :=
  OpenClaim.holds_of_wide 6 Try.f6 rfl rfl rfl rfl rfl rfl rfl ⟨rfl, rfl, rfl, rfl, rfl⟩ rfl rfl rfl rfl rfl (by kernel_rfl) Try.func6 (by kernel_rfl)
    (of_decide_eq_true (by kernel_rfl)) (by unfold Func.isWrapper; first | (rw [if_pos (by decide +kernel)]; kernel_rfl) | (rw [if_neg (by decide +kernel)]; exact ⟨rfl, rfl⟩))
    (fun os started H enc _ => nodesNever_lifted os started H enc)
#print axioms nodesNever_holds
end Go.Proofs.Ytmmflpjfgapaaaa
