/- The plain mathematics of who reaches whom: nodes are numbers below n, K tells each one's children. What marking again and again yields is what is reached; what counting again and again yields is whether there is no loop. -/
import Derived.Test.YtmmflpjfgapaaaaArenaMath
namespace Go.Proofs.Ytmmflpjfgapaaaa
open Go.RowKit

section
variable {K K' : Nat → List Nat} {n : Nat}

/-- within m steps -/
def reachN (K : Nat → List Nat) : Nat → Nat → Nat → Prop
  | 0, i, j => i = j
  | m + 1, i, j => i = j ∨ ∃ c, c ∈ K i ∧ reachN K m c j
def Reach (K : Nat → List Nat) (i j : Nat) : Prop := ∃ m, reachN K m i j

theorem reach_refl (i : Nat) : Reach K i i := ⟨0, rfl⟩
theorem reach_step {i c j : Nat} (hc : c ∈ K i) (h : Reach K c j) : Reach K i j := by
  obtain ⟨m, hm⟩ := h
  exact ⟨m + 1, .inr ⟨c, hc, hm⟩⟩
theorem reach_cases {i j : Nat} : Reach K i j ↔ i = j ∨ ∃ c, c ∈ K i ∧ Reach K c j := by
  constructor
  · rintro ⟨m, hm⟩
    cases m with
    | zero => exact .inl hm
    | succ m =>
      rcases hm with e | ⟨c, hc, h⟩
      · exact .inl e
      · exact .inr ⟨c, hc, m, h⟩
  · rintro (rfl | ⟨c, hc, h⟩)
    · exact reach_refl i
    · exact reach_step hc h
theorem reachN_closed {P : Nat → Prop} (hcl : ∀ x c, P x → c ∈ K x → P c) : ∀ m i j, P i → reachN K m i j → P j
  | 0, i, j, hi, h => by
    have e : i = j := h
    exact e ▸ hi
  | m + 1, i, j, hi, h => by
    rcases h with e | ⟨c, hc, h⟩
    · exact e ▸ hi
    · exact reachN_closed hcl m c j (hcl i c hi hc) h
/-- what holds of one, and of a child of whom it holds, holds of all that are reached -/
theorem reach_closed {P : Nat → Prop} (hcl : ∀ x c, P x → c ∈ K x → P c) {i j : Nat} (hi : P i) (h : Reach K i j) : P j := by
  obtain ⟨m, hm⟩ := h
  exact reachN_closed hcl m i j hi hm
theorem reach_trans {i j k : Nat} (h1 : Reach K i j) (h2 : Reach K j k) : Reach K i k := by
  obtain ⟨m, hm⟩ := h1
  induction m generalizing i with
  | zero =>
    have e : i = j := hm
    exact e ▸ h2
  | succ m ih =>
    rcases hm with e | ⟨c, hc, h⟩
    · exact e ▸ h2
    · exact reach_step hc (ih h)
theorem reach_one {i c : Nat} (h : c ∈ K i) : Reach K i c := reach_step h (reach_refl c)
theorem reach_snoc {i j c : Nat} (h : Reach K i j) (hc : c ∈ K j) : Reach K i c := reach_trans h (reach_one hc)
theorem reach_lt (hK : ∀ i, i < n → ∀ c, c ∈ K i → c < n) {i j : Nat} (hi : i < n) (h : Reach K i j) : j < n :=
  reach_closed (P := fun x => x < n) (fun x c hx hc => hK x hx c hc) hi h
theorem reach_sub (hs : ∀ i c, c ∈ K' i → c ∈ K i) {i j : Nat} (h : Reach K' i j) : Reach K i j :=
  reach_closed (P := fun x => Reach K i x) (fun x c hx hc => reach_snoc hx (hs x c hc)) (reach_refl i) h

/-- no node reaches itself over one child or more -/
def Acyc (K : Nat → List Nat) (n : Nat) : Prop := ∀ i, i < n → ∀ c, c ∈ K i → ¬ Reach K c i
theorem acyc_sub (hs : ∀ i c, c ∈ K' i → c ∈ K i) (h : Acyc K n) : Acyc K' n := fun i hi c hc hr => h i hi c (hs i c hc) (reach_sub hs hr)
/-- with one link more -/
theorem reach_link {p x : Nat} (hl : ∀ i c, c ∈ K' i → c ∈ K i ∨ (i = p ∧ c = x)) {i j : Nat} (h : Reach K' i j) : Reach K i j ∨ (Reach K i p ∧ Reach K x j) := by
  refine reach_closed (K := K') (P := fun y => Reach K i y ∨ (Reach K i p ∧ Reach K x y)) (fun y c hy hc => ?_) (.inl (reach_refl i)) h
  rcases hl y c hc with h1 | ⟨rfl, rfl⟩
  · rcases hy with h2 | ⟨h2, h3⟩
    · exact .inl (reach_snoc h2 h1)
    · exact .inr ⟨h2, reach_snoc h3 h1⟩
  · rcases hy with h2 | ⟨h2, h3⟩
    · exact .inr ⟨h2, reach_refl c⟩
    · exact .inr ⟨h2, reach_refl c⟩
theorem acyc_link {p x : Nat} (hl : ∀ i c, c ∈ K' i → c ∈ K i ∨ (i = p ∧ c = x)) (h : Acyc K n) (hno : ¬ Reach K x p) : Acyc K' n := by
  intro i hi c hc hr
  rcases hl i c hc with h1 | ⟨rfl, rfl⟩
  · rcases reach_link hl hr with h2 | ⟨h2, h3⟩
    · exact h i hi c h1 h2
    · exact hno (reach_trans (reach_snoc h3 h1) h2)
  · rcases reach_link hl hr with h2 | ⟨h2, _⟩
    · exact hno h2
    · exact hno h2

/-! Lists of marks -/
def cnt (o : List Bool) : Nat := o.countP id
def Le (a b : List Bool) : Prop := a.length = b.length ∧ ∀ j, nth false a j = true → nth false b j = true
theorem le_refl' (a : List Bool) : Le a a := ⟨rfl, fun _ h => h⟩
theorem le_trans' {a b c : List Bool} (h1 : Le a b) (h2 : Le b c) : Le a c := ⟨h1.1.trans h2.1, fun j h => h2.2 j (h1.2 j h)⟩
theorem le_set (a : List Bool) (k : Nat) : Le a (a.set k true) := by
  refine ⟨by rw [List.length_set], fun j h => ?_⟩
  by_cases hk : k < a.length
  · rw [nth_set' hk]
    split
    · rfl
    · exact h
  · rw [List.set_eq_of_length_le (by omega)]
    exact h
theorem nth_cons_succ {α : Type} (d x : α) (l : List α) (k : Nat) : nth d (x :: l) (k + 1) = nth d l k := by simp [nth]
theorem nth_cons_zero {α : Type} (d x : α) (l : List α) : nth d (x :: l) 0 = x := by simp [nth]
theorem nth_ge {α : Type} {d : α} {l : List α} {k : Nat} (h : l.length ≤ k) : nth d l k = d := by simp [nth, List.getElem?_eq_none h]
theorem cnt_le : ∀ {a b : List Bool}, Le a b → cnt a ≤ cnt b
  | [], [], _ => Nat.le_refl _
  | [], b :: y, h => by simp [Le] at h
  | a :: x, [], h => by simp [Le] at h
  | a :: x, b :: y, h => by
    have h1 : Le x y := ⟨by simpa using h.1, fun j hj => by have := h.2 (j + 1); rw [nth_cons_succ, nth_cons_succ] at this; exact this hj⟩
    have h0 := h.2 0
    rw [nth_cons_zero, nth_cons_zero] at h0
    have := cnt_le h1
    unfold cnt at *
    cases a with
    | false => rw [List.countP_cons, List.countP_cons]; simp; omega
    | true => rw [h0 rfl, List.countP_cons, List.countP_cons]; omega
theorem cnt_lt : ∀ {a b : List Bool} (k : Nat), Le a b → nth false a k = false → nth false b k = true → cnt a < cnt b
  | [], [], k, _, _, h => by simp [nth] at h
  | [], b :: y, k, h, _, _ => by simp [Le] at h
  | a :: x, [], k, h, _, _ => by simp [Le] at h
  | a :: x, b :: y, k, h, ha, hb => by
    have h1 : Le x y := ⟨by simpa using h.1, fun j hj => by have := h.2 (j + 1); rw [nth_cons_succ, nth_cons_succ] at this; exact this hj⟩
    have h0 := h.2 0
    rw [nth_cons_zero, nth_cons_zero] at h0
    cases k with
    | zero =>
      rw [nth_cons_zero] at ha hb
      have := cnt_le h1
      subst ha hb
      unfold cnt at *
      rw [List.countP_cons, List.countP_cons]
      simp
      omega
    | succ k =>
      rw [nth_cons_succ] at ha hb
      have := cnt_lt k h1 ha hb
      unfold cnt at *
      cases a with
      | false => rw [List.countP_cons, List.countP_cons]; simp; omega
      | true => rw [h0 rfl, List.countP_cons, List.countP_cons]; omega
theorem cnt_len (a : List Bool) : cnt a ≤ a.length := List.countP_le_length
theorem le_eq {a b : List Bool} (h : Le a b) (hc : cnt b ≤ cnt a) : a = b := by
  refine ext_nth (d := false) h.1 fun k _ => ?_
  cases ha : nth false a k with
  | true => rw [h.2 k ha]
  | false =>
    cases hb : nth false b k with
    | false => rfl
    | true =>
      have := cnt_lt k h ha hb
      omega
theorem cnt_all {a : List Bool} (h : cnt a = a.length) {k : Nat} (hk : k < a.length) : nth false a k = true := by
  have h2 : ∀ x ∈ a, id x = true := List.countP_eq_length.1 h
  exact h2 _ (nth_mem hk)
theorem all_cnt {a : List Bool} (h : ∀ k, k < a.length → nth false a k = true) : cnt a = a.length := by
  refine List.countP_eq_length.2 fun x hx => ?_
  obtain ⟨k, hk, rfl⟩ := List.getElem_of_mem hx
  have := h k hk
  rwa [nth_eq hk] at this

/-! Marking: the first k children of i; the first i nodes; r times all of them -/
def stp (i : Nat) (o : List Bool) (c : Nat) : List Bool := if nth false o i = true then o.set c true else o
def inn (K : Nat → List Nat) (o : List Bool) (i k : Nat) : List Bool := ((K i).take k).foldl (stp i) o
def mid (K : Nat → List Nat) (o : List Bool) : Nat → List Bool
  | 0 => o
  | i + 1 => inn K (mid K o i) i (K i).length
def rnd (K : Nat → List Nat) (n : Nat) (o : List Bool) : Nat → List Bool
  | 0 => o
  | r + 1 => mid K (rnd K n o r) n
theorem inn_zero (o : List Bool) (i : Nat) : inn K o i 0 = o := rfl
theorem inn_succ (o : List Bool) (i k : Nat) (hk : k < (K i).length) : inn K o i (k + 1) = stp i (inn K o i k) (nth 0 (K i) k) := by
  unfold inn
  rw [take_nth (d := 0) hk, List.foldl_append]
  rfl
theorem le_stp (i : Nat) (o : List Bool) (c : Nat) : Le o (stp i o c) := by
  unfold stp
  split
  · exact le_set o c
  · exact le_refl' o
theorem le_fold (i : Nat) : ∀ (cs : List Nat) (o : List Bool), Le o (cs.foldl (stp i) o)
  | [], o => le_refl' o
  | c :: cs, o => le_trans' (le_stp i o c) (le_fold i cs _)
theorem le_inn (o : List Bool) (i k : Nat) : Le o (inn K o i k) := le_fold i _ o
theorem le_mid (o : List Bool) : ∀ i, Le o (mid K o i)
  | 0 => le_refl' o
  | i + 1 => le_trans' (le_mid o i) (le_inn _ i _)
theorem le_mid_on (o : List Bool) (i : Nat) : ∀ j, Le (mid K o i) (mid K o (i + j))
  | 0 => le_refl' _
  | j + 1 => le_trans' (le_mid_on o i j) (le_inn _ (i + j) _)
theorem fold_hits {i : Nat} : ∀ (cs : List Nat) (o : List Bool), nth false o i = true → (∀ c, c ∈ cs → c < o.length) → ∀ c, c ∈ cs → nth false (cs.foldl (stp i) o) c = true
  | [], o, _, _, c, hc => by simp at hc
  | a :: cs, o, hi, hl, c, hc => by
    have hs : nth false (stp i o a) i = true := (le_stp i o a).2 i hi
    rcases List.mem_cons.1 hc with rfl | hc'
    · refine (le_fold i cs _).2 c ?_
      unfold stp
      rw [if_pos hi, nth_set' (hl c (by simp)), if_pos rfl]
    · exact fold_hits cs _ hs (fun x hx => by rw [← (le_stp i o a).1]; exact hl x (by simp [hx])) c hc'
theorem mid_hits {o : List Bool} (hK : ∀ i, i < n → ∀ c, c ∈ K i → c < n) (hl : o.length = n) {i c : Nat} (hi : i < n) (hm : nth false o i = true) (hc : c ∈ K i) : nth false (mid K o n) c = true := by
  have h1 := (le_mid (K := K) o i).2 i hm
  have h2 : nth false (mid K o (i + 1)) c = true := by
    show nth false (inn K (mid K o i) i (K i).length) c = true
    unfold inn
    rw [List.take_length]
    exact fold_hits (K i) _ h1 (fun x hx => by rw [← (le_mid (K := K) o i).1, hl]; exact hK i hi x hx) c hc
  have h3 := (le_mid_on (K := K) o (i + 1) (n - (i + 1))).2 c h2
  rwa [show i + 1 + (n - (i + 1)) = n by omega] at h3
theorem fold_sound {P : Nat → Prop} {i : Nat} : ∀ (cs : List Nat) (o : List Bool), (∀ j, nth false o j = true → P j) → (P i → ∀ c, c ∈ cs → P c) → ∀ j, nth false (cs.foldl (stp i) o) j = true → P j
  | [], o, h, _, j, hj => h j hj
  | a :: cs, o, h, hc, j, hj => by
    refine fold_sound cs (stp i o a) (fun x hx => ?_) (fun hi c hcc => hc hi c (by simp [hcc])) j hj
    unfold stp at hx
    split at hx
    · rename_i hi
      by_cases ha : a < o.length
      · rw [nth_set' ha] at hx
        split at hx
        · rename_i e; rw [e]; exact hc (h i hi) a (by simp)
        · exact h x hx
      · rw [List.set_eq_of_length_le (by omega)] at hx
        exact h x hx
    · exact h x hx
theorem inn_sound {P : Nat → Prop} {o : List Bool} {i k : Nat} (hcl : ∀ x c, P x → c ∈ K x → P c) (h : ∀ j, nth false o j = true → P j) : ∀ j, nth false (inn K o i k) j = true → P j :=
  fold_sound _ o h (fun hi c hc => hcl i c hi (List.mem_of_mem_take hc))
theorem mid_sound {P : Nat → Prop} {o : List Bool} (hcl : ∀ x c, P x → c ∈ K x → P c) (h : ∀ j, nth false o j = true → P j) : ∀ i j, nth false (mid K o i) j = true → P j
  | 0 => h
  | i + 1 => inn_sound hcl (mid_sound hcl h i)
theorem rnd_sound {P : Nat → Prop} {o : List Bool} (hcl : ∀ x c, P x → c ∈ K x → P c) (h : ∀ j, nth false o j = true → P j) : ∀ r j, nth false (rnd K n o r) j = true → P j
  | 0 => h
  | r + 1 => mid_sound hcl (rnd_sound hcl h r) n
theorem le_rnd (o : List Bool) : ∀ r, Le o (rnd K n o r)
  | 0 => le_refl' o
  | r + 1 => le_trans' (le_rnd o r) (le_mid _ n)
/-- after as many rounds as there are nodes nothing more is marked -/
theorem rnd_still {o : List Bool} (hl : o.length = n) (h1 : 1 ≤ cnt o) : mid K (rnd K n o n) n = rnd K n o n := by
  have key : ∀ r, mid K (rnd K n o r) n = rnd K n o r ∨ r + 1 ≤ cnt (rnd K n o r) := by
    intro r
    induction r with
    | zero => exact .inr h1
    | succ r ih =>
      rcases ih with e | h
      · left
        show mid K (mid K (rnd K n o r) n) n = mid K (rnd K n o r) n
        rw [e, e]
      · by_cases hc : cnt (mid K (rnd K n o r) n) ≤ cnt (rnd K n o r)
        · left
          have e := le_eq (le_mid (K := K) (rnd K n o r) n) hc
          show mid K (mid K (rnd K n o r) n) n = mid K (rnd K n o r) n
          rw [← e, ← e]
        · right
          show r + 1 + 1 ≤ cnt (mid K (rnd K n o r) n)
          omega
  rcases key n with e | h
  · exact e
  · have := cnt_len (rnd K n o n)
    rw [← (le_rnd o n).1, hl] at this
    omega

/-- which are reached from one -/
def below (K : Nat → List Nat) (n i : Nat) : List Bool := rnd K n ((List.replicate n false).set i true) n
theorem below_len (i : Nat) : (below K n i).length = n := by
  have := (le_rnd (K := K) (n := n) ((List.replicate n false).set i true) n).1
  rw [List.length_set, List.length_replicate] at this
  exact this.symm
theorem nth_replicate (n j : Nat) : nth false (List.replicate n false) j = false := by
  by_cases h : j < n
  · rw [nth_eq (by simpa using h)]; simp
  · rw [nth_ge (by simpa using h)]
theorem below_spec (hK : ∀ i, i < n → ∀ c, c ∈ K i → c < n) {i : Nat} (hi : i < n) (j : Nat) : nth false (below K n i) j = true ↔ Reach K i j := by
  have hl : ((List.replicate n false).set i true).length = n := by rw [List.length_set, List.length_replicate]
  have h0 : nth false ((List.replicate n false).set i true) i = true := by rw [nth_set' (by simpa using hi), if_pos rfl]
  have hc : 1 ≤ cnt ((List.replicate n false).set i true) := by
    have := cnt_lt i (le_set (List.replicate n false) i) (nth_replicate n i) h0
    omega
  constructor
  · refine rnd_sound (P := fun x => Reach K i x) (fun x c hx hc => reach_snoc hx hc) (fun x hx => ?_) n j
    rw [nth_set' (by simpa using hi)] at hx
    split at hx
    · rename_i e; rw [e]; exact reach_refl i
    · rw [nth_replicate] at hx; cases hx
  · intro h
    have hst := rnd_still (K := K) hl hc
    have := reach_closed (P := fun x => x < n ∧ nth false (below K n i) x = true) (fun x c hx hcx => ⟨hK x hx.1 c hcx, by
      have h2 := mid_hits hK (o := rnd K n ((List.replicate n false).set i true) n) (by rw [← (le_rnd _ n).1, hl]) hx.1 hx.2 hcx
      rw [hst] at h2
      exact h2⟩) ⟨hi, (le_rnd _ n).2 i h0⟩ h
    exact this.2

/-! Counting: whose children all are counted is counted -/
def stpL (K : Nat → List Nat) (o : List Bool) (i : Nat) : List Bool := if ((K i).all fun c => nth false o c) && !nth false o i then o.set i true else o
def midL (K : Nat → List Nat) (o : List Bool) : Nat → List Bool
  | 0 => o
  | i + 1 => stpL K (midL K o i) i
def rndL (K : Nat → List Nat) (n : Nat) (o : List Bool) : Nat → List Bool
  | 0 => o
  | r + 1 => midL K (rndL K n o r) n
theorem le_stpL (o : List Bool) (i : Nat) : Le o (stpL K o i) := by
  unfold stpL
  split
  · exact le_set o i
  · exact le_refl' o
theorem le_midL (o : List Bool) : ∀ i, Le o (midL K o i)
  | 0 => le_refl' o
  | i + 1 => le_trans' (le_midL o i) (le_stpL _ i)
theorem le_midL_on (o : List Bool) (i : Nat) : ∀ j, Le (midL K o i) (midL K o (i + j))
  | 0 => le_refl' _
  | j + 1 => le_trans' (le_midL_on o i j) (le_stpL _ (i + j))
theorem le_rndL (o : List Bool) : ∀ r, Le o (rndL K n o r)
  | 0 => le_refl' o
  | r + 1 => le_trans' (le_rndL o r) (le_midL _ n)
/-- what is counted has no loop below it -/
def Sane (K : Nat → List Nat) (o : List Bool) : Prop := (∀ x c, nth false o x = true → c ∈ K x → nth false o c = true) ∧ ∀ x, nth false o x = true → ∀ c, c ∈ K x → ¬ Reach K c x
theorem sane_stp {o : List Bool} (h : Sane K o) (i : Nat) : Sane K (stpL K o i) := by
  unfold stpL
  split
  · rename_i hi
    simp only [Bool.and_eq_true, List.all_eq_true, Bool.not_eq_true'] at hi
    by_cases hl : i < o.length
    · have hn : ∀ c, c ∈ K i → ¬ Reach K c i := by
        intro c hc hr
        have h2 : nth false o i = true := reach_closed (P := fun x => nth false o x = true) h.1 (hi.1 c hc) hr
        rw [hi.2] at h2
        cases h2
      have hs := (le_set o i).2
      refine ⟨fun x c hx hc => ?_, fun x hx c hc => ?_⟩
      · rw [nth_set' hl] at hx
        split at hx
        · rename_i e; subst e; exact hs c (hi.1 c hc)
        · exact hs c (h.1 x c hx hc)
      · rw [nth_set' hl] at hx
        split at hx
        · rename_i e; subst e; exact hn c hc
        · exact h.2 x hx c hc
    · rw [List.set_eq_of_length_le (by omega)]
      exact h
  · exact h
theorem sane_mid {o : List Bool} (h : Sane K o) : ∀ i, Sane K (midL K o i)
  | 0 => h
  | i + 1 => sane_stp (sane_mid h i) i
theorem sane_rnd {o : List Bool} (h : Sane K o) : ∀ r, Sane K (rndL K n o r)
  | 0 => h
  | r + 1 => sane_mid (sane_rnd h r) n
def countedL (K : Nat → List Nat) (n : Nat) : List Bool := rndL K n (List.replicate n false) n
theorem counted_len : (countedL K n).length = n := by
  have := (le_rndL (K := K) (n := n) (List.replicate n false) n).1
  rw [List.length_replicate] at this
  exact this.symm
theorem counted_sound (h : cnt (countedL K n) = n) : Acyc K n := by
  intro i hi c hc
  have hs : Sane K (countedL K n) := sane_rnd ⟨fun x c hx => by (rw [nth_replicate] at hx; cases hx), fun x hx => by (rw [nth_replicate] at hx; cases hx)⟩ n
  exact hs.2 i (cnt_all (by rw [counted_len]; exact h) (by rw [counted_len]; exact hi)) c hc
theorem rank_lt (hK : ∀ i, i < n → ∀ c, c ∈ K i → c < n) (ha : Acyc K n) {i c : Nat} (hi : i < n) (hc : c ∈ K i) : cnt (below K n c) < cnt (below K n i) := by
  have hcn := hK i hi c hc
  refine cnt_lt i ⟨by rw [below_len, below_len], fun j hj => ?_⟩ ?_ ?_
  · rw [below_spec hK hcn] at hj
    rw [below_spec hK hi]
    exact reach_step hc hj
  · cases h : nth false (below K n c) i with
    | false => rfl
    | true =>
      rw [below_spec hK hcn] at h
      exact absurd h (ha i hi c hc)
  · rw [below_spec hK hi]
    exact reach_refl i
theorem mid_counts {o : List Bool} (hl : o.length = n) {i : Nat} (hi : i < n) (h : ∀ c, c ∈ K i → nth false o c = true) : nth false (midL K o n) i = true := by
  have h1 : nth false (midL K o (i + 1)) i = true := by
    show nth false (stpL K (midL K o i) i) i = true
    have hall : ((K i).all fun c => nth false (midL K o i) c) = true := List.all_eq_true.2 fun c hc => (le_midL (K := K) o i).2 c (h c hc)
    unfold stpL
    rw [hall, Bool.true_and]
    cases hv : nth false (midL K o i) i with
    | true => simpa using hv
    | false =>
      have hli : i < (midL K o i).length := by rw [← (le_midL (K := K) o i).1, hl]; exact hi
      rw [if_pos (by rfl), nth_set' hli, if_pos rfl]
  have h2 := (le_midL_on (K := K) o (i + 1) (n - (i + 1))).2 i h1
  rwa [show i + 1 + (n - (i + 1)) = n by omega] at h2
theorem counted_all (hK : ∀ i, i < n → ∀ c, c ∈ K i → c < n) (ha : Acyc K n) : cnt (countedL K n) = n := by
  have key : ∀ r i, i < n → cnt (below K n i) ≤ r → nth false (rndL K n (List.replicate n false) r) i = true := by
    intro r
    induction r with
    | zero =>
      intro i hi h
      have hb : nth false (below K n i) i = true := (below_spec hK hi i).2 (reach_refl i)
      have := cnt_lt (a := List.replicate n false) (b := below K n i) i ⟨by rw [List.length_replicate, below_len], fun j hj => by rw [nth_replicate] at hj; cases hj⟩ (nth_replicate n i) hb
      omega
    | succ r ih =>
      intro i hi h
      refine mid_counts (by rw [← (le_rndL _ r).1, List.length_replicate]) hi fun c hc => ?_
      have := rank_lt hK ha hi hc
      exact ih c (hK i hi c hc) (by omega)
  have h2 := all_cnt (a := countedL K n) fun k hk => by
    rw [counted_len] at hk
    exact key n k hk (by have := cnt_len (below K n k); rw [below_len] at this; exact this)
  rwa [counted_len] at h2
theorem counted_iff (hK : ∀ i, i < n → ∀ c, c ∈ K i → c < n) : cnt (countedL K n) = n ↔ Acyc K n := ⟨counted_sound, counted_all hK⟩
end
end Go.Proofs.Ytmmflpjfgapaaaa
