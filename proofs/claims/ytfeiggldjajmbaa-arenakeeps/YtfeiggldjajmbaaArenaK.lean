/- What ArenaKeeps keeps in memory: the arena, the handles that were given, whether each lives. -/
import Derived.Test.YtfeiggldjajmbaaArenaA
import Derived.Test.YtfeiggldjajmbaaFill
namespace Go.Proofs.Ytfeiggldjajmbaa
open Go.RowKit Go.ChangeShapes Go.WideShapes Go.ChangeAt
set_option linter.unusedSimpArgs false
set_option linter.unusedVariables false
attribute [local go_sem] plus_size plus_drew dn_set dn_alloc dn_plus plus_dn cell_plus frozen_plus set_plus cell_alloc frozen_alloc set_alloc

theorem kinB : Kin Try.prog 52 4 1 1 := ⟨Try.underlying52, info_parts' (z := .bool false) (by kernel_rfl) rfl, by decide⟩
def fB (b : Bool) : List Value := [.bool b]
theorem fB_c : ∀ x, (fB x).length = 1 := fun _ => rfl
theorem fB_1 : ∀ x, ∀ u ∈ fB x, u.oneCell' = true := by intro x u hu; simp only [fB, List.mem_cons, List.not_mem_nil, or_false] at hu; subst hu; rfl
theorem cellB {w : World} {g off n k : Nat} {l : List Bool} (hl : l.length = n) (h : ∀ j u, (l.flatMap fB)[j]? = some u → w.cell? ⟨g, off + j, none⟩ = some u) (hk : k < n) : w.cell? ⟨g, off + k, none⟩ = some (.bool (nth false l k)) := by
  have h0 := cell_nth (d := false) hl fB_c h k 0 _ hk (by decide) rfl
  rwa [Nat.mul_one, Nat.add_zero] at h0

structure KI (w : World) (L : List Sl) (gv : List (Int × Int)) (lv : List Bool) (aa : Option Addr) (ac : Nat) (ga : Option Addr) (gc : Nat) (va : Option Addr) (vc : Nat) (wr : World) : Prop where
  ex : ∃ y, wr = plus w y
  box : wr.heap[w.heap.size]? = some (.cells #[.slice aa L.length ac] 24)
  ar : Lay fS w aa L.length L ∨ Own 33 2 fS w wr aa L.length ac L
  gs : Own 26 2 f2 w wr ga gv.length gc gv
  ls : Own 4 1 fB w wr va lv.length vc lv

section
variable {w wr wr' : World} {L L' : List Sl} {gv gv' : List (Int × Int)} {lv lv' : List Bool} {aa ga va aa' ga' va' : Option Addr} {ac gc vc ac' gc' vc' : Nat}
theorem KI.on (h : KI w L gv lv aa ac ga gc va vc wr) (hw : ∃ x, wr' = plus wr x) : KI w L gv lv aa ac ga gc va vc wr' :=
  ⟨ex_trans h.ex hw, blk_ex hw h.box, h.ar.imp id (fun o => o.ex hw), h.gs.ex hw, h.ls.ex hw⟩
theorem KI.lay (h : KI w L gv lv aa ac ga gc va vc wr) : Lay fS wr aa L.length L := by
  rcases h.ar with o | o
  · exact o.ex h.ex
  · exact o.lay
theorem KI.cell (h : KI w L gv lv aa ac ga gc va vc wr) : wr.cell? ⟨w.heap.size, 0, none⟩ = some (.slice aa L.length ac) := cell_blk h.box rfl
theorem KI.lt (h : KI w L gv lv aa ac ga gc va vc wr) : w.heap.size < wr.heap.size := blk_lt h.box
/-- another arena -/
theorem KI.setBox (h : KI w L gv lv aa ac ga gc va vc wr) (o : Own 33 2 fS w wr aa' L'.length ac' L') : KI w L' gv lv aa' ac' ga gc va vc (wr.setCell ⟨w.heap.size, 0, none⟩ (.slice aa' L'.length ac')) :=
  ⟨ex_set_new h.ex (Nat.le_refl _), blk_set_eq h.box, .inr (o.set_other h.box (by decide)), h.gs.set_other h.box (by decide), h.ls.set_other h.box (by decide)⟩
/-- one that does not live any more -/
theorem KI.setLive {vg q : Nat} (h : KI w L gv lv aa ac ga gc (some ⟨vg, 0, none⟩) vc wr) (hq : q < lv.length) : KI w L gv (lv.set q false) aa ac ga gc (some ⟨vg, 0, none⟩) vc (wr.setCell ⟨vg, q, none⟩ (.bool false)) := by
  obtain ⟨_, cur, e0, hg, hb, _⟩ := h.ls.blk (by omega)
  cases e0
  have hs := h.ls.set_self (u := .bool false) q 0 false false hq fB_c (by decide) rfl
  rw [Nat.mul_one, Nat.add_zero] at hs
  refine ⟨ex_set_new h.ex hg, ?_, h.ar.imp id (fun o => o.set_other hb (by decide)), h.gs.set_other hb (by decide), by rw [List.length_set]; exact hs⟩
  rw [blk_set_ne ?_]
  · exact h.box
  · intro e0
    rw [e0, h.box] at hb
    cases hb
/-- one more was given -/
theorem KI.appG (h : KI w L gv lv aa ac ga gc va vc wr) (o : Own 26 2 f2 w wr' ga' gv'.length gc' gv') (hx : ∃ y, wr' = plus w y) (hgr : wr.grownBy wr' (Value.ownBlock (.slice ga gv.length gc))) : KI w L gv' lv aa ac ga' gc' va vc wr' :=
  ⟨hx, grown_blk hgr h.gs h.box (by decide), h.ar.imp id (fun o => grown_own hgr h.gs o (by decide)), o, grown_own hgr h.gs h.ls (by decide)⟩
theorem KI.appL (h : KI w L gv lv aa ac ga gc va vc wr) (o : Own 4 1 fB w wr' va' lv'.length vc' lv') (hx : ∃ y, wr' = plus w y) (hgr : wr.grownBy wr' (Value.ownBlock (.slice va lv.length vc))) : KI w L gv lv' aa ac ga gc va' vc' wr' :=
  ⟨hx, grown_blk hgr h.ls h.box (by decide), h.ar.imp id (fun o => grown_own hgr h.ls o (by decide)), grown_own hgr h.ls h.gs (by decide), o⟩
theorem holds_keeps (ho : arOk L = true) (hK : Keeps L gv lv) {k : Nat} (hk : k < gv.length) : holds L (nth (0, 0) gv k).1 (nth (0, 0) gv k).2 = nth false lv k := by
  rw [holds, ho, Bool.true_and]
  exact hK.is k hk
end

/-! The region of Kill: what each operation yields. -/
def k25S (i : Nat) : List Nat := match i with | 0 => [88] | 1 => [89] | 2 => [90] | 3 => [91] | 4 => [92] | 5 => [93] | 6 => [94] | 7 => [95] | 8 => [96] | 9 => [87] | 10 => [97] | 11 => [98] | 12 => [13] | 13 => [13] | 14 => [14] | _ => []
def k25Φ (w : World) (B : Nat) (av gvv lsv : Value) (k q lg lo gg : Nat) (s g er : Int) (R : List Sl) (i : Nat) (t : Nat → Value) (D : Nat → Bool) (w' : World) : Prop := match i with
  | 0 => t 88 = av
  | 1 => t 89 = gvv
  | 2 => t 90 = lsv
  | 3 => t 91 = .int .i64 k
  | 4 => t 92 = .pointer (some ⟨lg, lo + k, none⟩)
  | 5 => t 93 = .int .i64 q
  | 6 => t 94 = .pointer (some ⟨gg, q * 2, none⟩)
  | 7 => t 95 = .agg #[.int .i64 s, .int .i64 g]
  | 8 => ∃ xa xc, t 96 = .tuple #[.agg #[.slice xa R.length xc], .int .i64 er] ∧ Own 33 2 fS w w' xa R.length xc R
  | 9 => ∃ xa xc, t 87 = .tuple #[.agg #[.slice xa R.length xc], .int .i64 er] ∧ Own 33 2 fS w w' xa R.length xc R
  | 10 => ∃ xa xc, t 97 = .agg #[.slice xa R.length xc] ∧ Own 33 2 fS w w' xa R.length xc R
  | 11 => t 98 = .int .i64 er
  | 12 => ∃ p, t 13 = .pointer (some ⟨p, 0, none⟩) ∧ B ≤ p ∧ (D 13 = false → w'.heap[p]? = some (.cells #[.slice none 0 0] 24))
  | 13 => D 13 = true ∧ ∃ p xa xc, t 13 = .pointer (some ⟨p, 0, none⟩) ∧ B ≤ p ∧ w'.heap[p]? = some (.cells #[.slice xa R.length xc] 24) ∧ Own 33 2 fS w w' xa R.length xc R
  | 14 => t 14 = .int .i64 er
  | _ => True
theorem k25Φ_mono (w : World) (B : Nat) (av gvv lsv : Value) (k q lg lo gg : Nat) (s g er : Int) (R : List Sl) : ∀ i t t' D w1 D' w1', k25Φ w B av gvv lsv k q lg lo gg s g er R i t D w1 → (∀ s ∈ k25S i, t' s = t s) → Fill 13 B (.slice none 0 0) 24 D w1 D' w1' → k25Φ w B av gvv lsv k q lg lo gg s g er R i t' D' w1' := by
  intro i t t' D w1 D' w1' h hs' hf
  match i with
  | 0 => exact (hs' 88 (by decide)).trans h
  | 1 => exact (hs' 89 (by decide)).trans h
  | 2 => exact (hs' 90 (by decide)).trans h
  | 3 => exact (hs' 91 (by decide)).trans h
  | 4 => exact (hs' 92 (by decide)).trans h
  | 5 => exact (hs' 93 (by decide)).trans h
  | 6 => exact (hs' 94 (by decide)).trans h
  | 7 => exact (hs' 95 (by decide)).trans h
  | 8 =>
    obtain ⟨xa, xc, e, o⟩ := h
    exact ⟨xa, xc, (hs' 96 (by decide)).trans e, o.fill hf (by decide)⟩
  | 9 =>
    obtain ⟨xa, xc, e, o⟩ := h
    exact ⟨xa, xc, (hs' 87 (by decide)).trans e, o.fill hf (by decide)⟩
  | 10 =>
    obtain ⟨xa, xc, e, o⟩ := h
    exact ⟨xa, xc, (hs' 97 (by decide)).trans e, o.fill hf (by decide)⟩
  | 11 => exact (hs' 98 (by decide)).trans h
  | 12 =>
    obtain ⟨p, e, hB, hz⟩ := h
    exact ⟨p, (hs' 13 (by decide)).trans e, hB, fun h0 => fill_still hf h0 (hz (fill_not hf h0))⟩
  | 13 =>
    obtain ⟨hD, p, xa, xc, e, hB, hz, o⟩ := h
    exact ⟨hf.mono hD, p, xa, xc, (hs' 13 (by decide)).trans e, hB, fill_kept hf hD hz, o.fill hf (by decide)⟩
  | 14 => exact (hs' 14 (by decide)).trans h
  | i + 15 => trivial

end Go.Proofs.Ytfeiggldjajmbaa
