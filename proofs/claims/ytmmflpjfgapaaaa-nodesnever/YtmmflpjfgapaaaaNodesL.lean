/- How long what becomes of graphs is at most; graphs that are written over. -/
import Derived.Test.YtmmflpjfgapaaaaNodesC
namespace Go.Proofs.Ytmmflpjfgapaaaa
open Go.RowKit Go.ChangeShapes Go.WideShapes Go.ChangeAt
set_option linter.unusedSimpArgs false
set_option linter.unusedVariables false
attribute [local go_sem] plus_size plus_drew dn_set dn_alloc dn_plus plus_dn cell_plus frozen_plus set_plus cell_alloc frozen_alloc set_alloc

/-- nothing of it is longer than m -/
structure Few (g : Gr) (m : Nat) : Prop where
  s : g.sl.length ≤ m
  k : g.ks.length ≤ m
  r : ∀ j, (nth [] g.ks j).length ≤ m
theorem few_zero (m : Nat) : Few zeroG m := ⟨Nat.zero_le _, Nat.zero_le _, fun j => by rw [show nth [] zeroG.ks j = [] from nth_ge (Nat.zero_le _)]; exact Nat.zero_le _⟩
theorem few_mono {g : Gr} {m m' : Nat} (h : Few g m) (hm : m ≤ m') : Few g m' := ⟨Nat.le_trans h.s hm, Nat.le_trans h.k hm, fun j => Nat.le_trans (h.r j) hm⟩
theorem few_make {g : Gr} {m : Nat} (h : Few g m) : Few (makeRes g) (m + 1) := by
  unfold makeRes
  split
  · refine ⟨?_, ?_, fun j => by rw [makeG_row]; exact Nat.le_succ_of_le (h.r j)⟩
    · show (mkList g.sl).length ≤ m + 1
      have := h.s
      rw [mkList_len]
      split <;> omega
    · show (if g.ks.length < (mkList g.sl).length then g.ks ++ [[]] else g.ks).length ≤ m + 1
      have := h.k
      split
      · rw [List.length_append]; simp; omega
      · omega
  · exact few_zero _
theorem few_set {g : Gr} {m : Nat} (h : Few g m) (k : Nat) (r : List (Int × Int)) (hr : r.length ≤ m + 1) : Few ⟨g.sl, g.ks.set k r⟩ (m + 1) := by
  refine ⟨Nat.le_succ_of_le h.s, by show (g.ks.set k r).length ≤ m + 1; rw [List.length_set]; exact Nat.le_succ_of_le h.k, fun j => ?_⟩
  show (nth [] (g.ks.set k r) j).length ≤ m + 1
  by_cases hk : k < g.ks.length
  · rw [nth_set' hk]
    split
    · exact hr
    · exact Nat.le_succ_of_le (h.r j)
  · rw [List.set_eq_of_length_le (by omega)]
    exact Nat.le_succ_of_le (h.r j)
theorem few_link {g : Gr} {m : Nat} (h : Few g m) (p c : Int × Int) (k : Int) : Few (linkRes g p c k) (m + 1) := by
  unfold linkRes
  split
  · refine few_set h _ _ ?_
    have h1 := h.r p.1.toNat
    unfold put rowAt
    rw [List.length_append, List.length_take, List.length_cons, List.length_drop]
    omega
  · exact few_zero _
theorem few_unlink {g : Gr} {m : Nat} (h : Few g m) (p : Int × Int) (k : Int) : Few (unlinkRes g p k) (m + 1) := by
  unfold unlinkRes
  split
  · exact few_set h _ _ (Nat.le_succ_of_le (Nat.le_trans cut_len (h.r p.1.toNat)))
  · exact few_zero _
theorem few_kill {g : Gr} {m : Nat} (h : Few g m) (x : Int × Int) : Few (killRG g x) (m + 1) := by
  unfold killRG
  split
  · refine ⟨?_, ?_, fun j => ?_⟩
    · show (killList g.sl x.1).length ≤ m + 1
      rw [killList, List.length_set]
      exact Nat.le_succ_of_le h.s
    · show ((g.ks.map (without x)).set x.1.toNat []).length ≤ m + 1
      rw [List.length_set, List.length_map]
      exact Nat.le_succ_of_le h.k
    · have hw : (nth [] (g.ks.map (without x)) j).length ≤ m + 1 := by
        rw [nth_map (d := ([] : List (Int × Int))) (e := []) (f := without x) rfl]
        exact Nat.le_succ_of_le (Nat.le_trans (List.length_filter_le _ _) (h.r j))
      show (nth [] ((g.ks.map (without x)).set x.1.toNat []) j).length ≤ m + 1
      by_cases hk : x.1.toNat < (g.ks.map (without x)).length
      · rw [nth_set' hk]
        split
        · simp
        · exact hw
      · rw [List.set_eq_of_length_le (by omega)]
        exact hw
  · exact few_zero _
theorem GrAt.fewG {w : World} {ao : Option Addr} {n : Nat} {ko : Option Addr} {kn : Nat} {hs : List RH} {g : Gr} (h : GrAt w ao n ko kn hs g) {m : Nat} (h1 : n ≤ m) (h2 : kn ≤ m) (h3 : ∀ k, k < kn → (nth dRH hs k).n ≤ m) : Few g m := by
  refine ⟨by rw [h.sl.len]; exact h1, by rw [h.kl]; exact h2, fun j => ?_⟩
  by_cases hj : j < kn
  · rw [h.rl hj]; exact h3 j hj
  · rw [nth_ge (by rw [h.kl]; omega)]; exact Nat.zero_le _
theorem GrOwn.atF {T w : World} {ao ko : Option Addr} {cap kcap : Nat} {hs : List RH} {g : Gr} (h : GrOwn T w ao g.sl.length cap ko g.ks.length kcap hs g) {m : Nat} (hf : Few g m) (hm : m ≤ 1000) : GrAt w ao g.sl.length ko g.ks.length hs g :=
  h.at (Nat.le_trans hf.s hm) (Nat.le_trans hf.k hm) (fun k _ => Nat.le_trans (hf.r k) hm)
theorem GrOwn.shF {T T' w : World} {ao ko : Option Addr} {cap kcap : Nat} {hs : List RH} {g : Gr} (h : GrOwn T w ao g.sl.length cap ko g.ks.length kcap hs g) {m : Nat} (hf : Few g m) (hm : m ≤ 1000) (hT : T'.heap.size ≤ T.heap.size) : ShG T' w ao g.sl.length ko g.ks.length kcap hs :=
  h.sh hT (Nat.le_trans hf.s (Nat.le_trans hm (by decide))) (Nat.le_trans hf.k (Nat.le_trans hm (by decide))) (fun k _ => Nat.le_trans (hf.r k) (Nat.le_trans hm (by decide)))
theorem great_few {w : World} {ao : Option Addr} {n : Nat} {ko : Option Addr} {kn : Nat} {hs : List RH} {g : Gr} (h : GrIn w ao n ko kn hs g) (hg : greatB n kn hs = false) : Few g 400 := by
  obtain ⟨h1, h2, h3⟩ := great_no hg
  refine (h.few hg).fewG (by omega) (by omega) fun k hk => ?_
  have := sum_at hs hk
  omega
section
variable {w : World} {ao ao2 ko ko2 : Option Addr} {n cap kn kcap n2 cap2 kn2 kcap2 : Nat} {hs hs2 : List RH} {a b : Gr}
theorem gsame_any (h1 : GrAt w ao n ko kn hs a) (h2 : GrAt w ao2 n2 ko2 kn2 hs2 b) : Calls Try.prog 24 #[.agg #[.slice ao n cap, .slice ko kn kcap], .agg #[.slice ao2 n2 cap2, .slice ko2 kn2 kcap2]] w fun e w' => e = .returned (.bool (sameG a b)) ∧ Below w.heap.size w w' := gsame_calls ao n cap ko kn kcap hs a ao2 n2 cap2 ko2 kn2 kcap2 hs2 b w h1 h2
theorem nsame_any (h1 : GrAt w ao n ko kn hs a) (h2 : GrAt w ao2 n2 ko2 kn2 hs2 b) : Calls Try.prog 26 #[.agg #[.slice ao n cap, .slice ko kn kcap], .agg #[.slice ao2 n2 cap2, .slice ko2 kn2 kcap2]] w fun e w' => e = .returned (.bool (sameG a b)) ∧ Below w.heap.size w w' := nsame_calls ao n cap ko kn kcap hs a ao2 n2 cap2 ko2 kn2 kcap2 hs2 b w h1 h2
theorem great_any (h : GrIn w ao n ko kn hs a) : Calls Try.prog 16 #[.agg #[.slice ao n cap, .slice ko kn kcap]] w fun e w' => e = .returned (.bool (greatB n kn hs)) ∧ Below w.heap.size w w' := great_calls ao n cap ko kn kcap hs w h.kh h.n1 h.n2 (fun k hk => h.n3 k (by rw [h.kh.len]; exact hk))
theorem GrIn.ex {w' : World} (h : GrIn w ao n ko kn hs a) (hw : ∃ x, w' = plus w x) : GrIn w' ao n ko kn hs a := ⟨h.sl.ex hw, h.kh.ex hw, h.len, fun k hk => (h.row k hk).ex hw, h.n1, h.n2, h.n3, h.n4, h.n5⟩
end
/-- a graph's variable, and its shape -/
structure Box (T w : World) (p : Nat) (ao : Option Addr) (n cap : Nat) (ko : Option Addr) (kn kcap : Nat) (hs : List RH) : Prop where
  at0 : w.heap[p]? = some (.cells #[.slice ao n cap, .slice ko kn kcap] 27)
  sh : ShG T w ao n ko kn kcap hs
theorem Box.sp {T w w1 : World} {p : Nat} {ao ko : Option Addr} {n cap kn kcap : Nat} {hs : List RH} (h : Box T w p ao n cap ko kn kcap hs) (hp : Sp T w w1) : Box T w1 p ao n cap ko kn kcap hs := ⟨sp_blk hp h.at0 (by decide) (by decide), h.sh.sp hp⟩
theorem ShG.ex {T w w1 : World} {ao ko : Option Addr} {n kn kcap : Nat} {hs : List RH} (h : ShG T w ao n ko kn kcap hs) (hw : ∃ x, w1 = plus w x) : ShG T w1 ao n ko kn kcap hs := h.sp (sp_grow hw)

end Go.Proofs.Ytmmflpjfgapaaaa
