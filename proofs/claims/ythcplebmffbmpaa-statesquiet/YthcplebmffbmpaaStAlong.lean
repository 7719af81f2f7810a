/- What some styles make, one under the other. -/
import Derived.Test.YthcplebmffbmpaaStMath
import Derived.Test.YthcplebmffbmpaaLay
namespace Go.Proofs.Ythcplebmffbmpaa
open Go.RowKit Go.ChangeShapes Go.WideShapes Go.ChangeAt
set_option linter.unusedSimpArgs false
set_option linter.unusedVariables false
attribute [local go_sem] plus_size plus_drew dn_set dn_alloc dn_plus plus_dn cell_plus frozen_plus set_plus cell_alloc frozen_alloc set_alloc

def runTo (l : List Sy) : Nat → Ih
  | 0 => ihW
  | k + 1 => made (runTo l k) (nth sy0 l k)
def alongOk (l : List Sy) : Bool := l.all styOk
def alongErr (l : List Sy) : Int := if 128 < l.length then 4 else if alongOk l then 0 else 8
def along (l : List Sy) : Lk := if 128 < l.length then lk0 else if alongOk l then (runTo l l.length).l else lk0
theorem styOk_parts {s : Sy} (h : styOk s = true) : saysOk s = true ∧ lookOk s.l = true ∧ eqL (said s) s.l = true := by simpa [styOk] using h
theorem look_iff {l : Lk} : lookOk l = true ↔ -1 ≤ l.tx ∧ l.tx < 16 ∧ l.cu ≤ 2 ∧ -1024 ≤ l.bi ∧ l.bi ≤ 1024 ∧ 0 ≤ l.bn ∧ l.bn ≤ 15 := by simp [lookOk]
theorem u0_eq (i : Ih) (s : Sy) : u0 i s = ⟨⟨if takes s.s0 i.k0 then s.l.r else i.l.r, if takes s.s0 i.k0 then s.l.g else i.l.g, if takes s.s0 i.k0 then s.l.b else i.l.b, if takes s.s0 i.k0 then s.l.a else i.l.a, i.l.tx, i.l.cu, i.l.bi, i.l.bl, i.l.bn⟩, if takes s.s0 i.k0 then overs s.s0 else i.k0, i.k1, i.k2, i.k3, i.k4⟩ := by
  rw [u0]
  cases takes s.s0 i.k0 <;> rfl
theorem u1_eq (i : Ih) (s : Sy) : u1 i s = ⟨⟨i.l.r, i.l.g, i.l.b, i.l.a, if takes s.s1 i.k1 then s.l.tx else i.l.tx, i.l.cu, i.l.bi, i.l.bl, i.l.bn⟩, i.k0, if takes s.s1 i.k1 then overs s.s1 else i.k1, i.k2, i.k3, i.k4⟩ := by
  rw [u1]
  cases takes s.s1 i.k1 <;> rfl
theorem u2_eq (i : Ih) (s : Sy) : u2 i s = ⟨⟨i.l.r, i.l.g, i.l.b, i.l.a, i.l.tx, if takes s.s2 i.k2 then s.l.cu else i.l.cu, i.l.bi, i.l.bl, i.l.bn⟩, i.k0, i.k1, if takes s.s2 i.k2 then overs s.s2 else i.k2, i.k3, i.k4⟩ := by
  rw [u2]
  cases takes s.s2 i.k2 <;> rfl
theorem u3_eq (i : Ih) (s : Sy) : u3 i s = ⟨⟨i.l.r, i.l.g, i.l.b, i.l.a, i.l.tx, i.l.cu, if takes s.s3 i.k3 then s.l.bi else i.l.bi, i.l.bl, i.l.bn⟩, i.k0, i.k1, i.k2, if takes s.s3 i.k3 then overs s.s3 else i.k3, i.k4⟩ := by
  rw [u3]
  cases takes s.s3 i.k3 <;> rfl
theorem u4_eq (i : Ih) (s : Sy) : u4 i s = ⟨⟨i.l.r, i.l.g, i.l.b, i.l.a, i.l.tx, i.l.cu, i.l.bi, if takes s.s4 i.k4 then s.l.bl else i.l.bl, if takes s.s4 i.k4 then s.l.bn else i.l.bn⟩, i.k0, i.k1, i.k2, i.k3, if takes s.s4 i.k4 then overs s.s4 else i.k4⟩ := by
  rw [u4]
  cases takes s.s4 i.k4 <;> rfl
theorem made_eq (i : Ih) (s : Sy) : made i s = ⟨⟨if takes s.s0 i.k0 then s.l.r else i.l.r, if takes s.s0 i.k0 then s.l.g else i.l.g, if takes s.s0 i.k0 then s.l.b else i.l.b, if takes s.s0 i.k0 then s.l.a else i.l.a, if takes s.s1 i.k1 then s.l.tx else i.l.tx, if takes s.s2 i.k2 then s.l.cu else i.l.cu, if takes s.s3 i.k3 then s.l.bi else i.l.bi, if takes s.s4 i.k4 then s.l.bl else i.l.bl, if takes s.s4 i.k4 then s.l.bn else i.l.bn⟩,
    if takes s.s0 i.k0 then overs s.s0 else i.k0, if takes s.s1 i.k1 then overs s.s1 else i.k1, if takes s.s2 i.k2 then overs s.s2 else i.k2, if takes s.s3 i.k3 then overs s.s3 else i.k3, if takes s.s4 i.k4 then overs s.s4 else i.k4⟩ := by
  rw [made]
  show u4 (u3 (u2 (u1 (u0 i s) s) s) s) s = _
  simp only [u0_eq, u1_eq, u2_eq, u3_eq, u4_eq]
theorem made_l (i : Ih) (s : Sy) : (made i s).l = ⟨if takes s.s0 i.k0 then s.l.r else i.l.r, if takes s.s0 i.k0 then s.l.g else i.l.g, if takes s.s0 i.k0 then s.l.b else i.l.b, if takes s.s0 i.k0 then s.l.a else i.l.a, if takes s.s1 i.k1 then s.l.tx else i.l.tx, if takes s.s2 i.k2 then s.l.cu else i.l.cu, if takes s.s3 i.k3 then s.l.bi else i.l.bi, if takes s.s4 i.k4 then s.l.bl else i.l.bl, if takes s.s4 i.k4 then s.l.bn else i.l.bn⟩ := by
  rw [made_eq]
theorem made_look {i : Ih} {s : Sy} (hi : lookOk i.l = true) (hs : lookOk s.l = true) : lookOk (made i s).l = true := by
  rw [look_iff] at *
  rw [made_l]
  simp only
  refine ⟨?_, ?_, ?_, ?_, ?_, ?_, ?_⟩ <;> split <;> omega
theorem lkW_ok : lookOk lkW = true := by decide
theorem lkW_bound : LkB lkW := ⟨⟨by decide, by decide⟩, ⟨by decide, by decide⟩, ⟨by decide, by decide⟩, ⟨by decide, by decide⟩, ⟨by decide, by decide⟩⟩
theorem run_look {l : List Sy} {n : Nat} (h : ∀ k, k < n → styOk (nth sy0 l k) = true) : ∀ k, k ≤ n → lookOk (runTo l k).l = true
  | 0, _ => lkW_ok
  | k + 1, hk => made_look (run_look h k (by omega)) (styOk_parts (h k (by omega))).2.1
theorem made_bound {i : Ih} {s : Sy} (hi : LkB i.l) (hs : LkB s.l) : LkB (made i s).l := by
  rw [made_l]
  exact ⟨by simp only; split; exact hs.r; exact hi.r, by simp only; split; exact hs.g; exact hi.g, by simp only; split; exact hs.b; exact hi.b, by simp only; split; exact hs.a; exact hi.a, by simp only; split; exact hs.cu; exact hi.cu⟩
theorem run_bound {l : List Sy} {n : Nat} (h : ∀ k, k < n → SyB (nth sy0 l k)) : ∀ k, k ≤ n → LkB (runTo l k).l
  | 0, _ => lkW_bound
  | k + 1, hk => made_bound (run_bound h k (by omega)) (h k (by omega)).l
theorem all_ok {l : List Sy} (h : ∀ k, k < l.length → styOk (nth sy0 l k) = true) : alongOk l = true := by
  rw [alongOk, List.all_eq_true]
  intro x hx
  obtain ⟨k, hk, rfl⟩ := List.getElem_of_mem hx
  have := h k hk
  rwa [nth_eq hk] at this
theorem not_ok {l : List Sy} {k : Nat} (hk : k < l.length) (h : styOk (nth sy0 l k) = false) : alongOk l = false := by
  rw [alongOk, List.all_eq_false]
  exact ⟨nth sy0 l k, nth_mem hk, by rw [h]; decide⟩
theorem ok_at {l : List Sy} (h : alongOk l = true) : ∀ k, k < l.length → styOk (nth sy0 l k) = true := fun k hk => List.all_eq_true.1 h _ (nth_mem hk)
theorem upto_ok {l : List Sy} {k : Nat} (h : ∀ j, j < k → styOk (nth sy0 l j) = true) (hk : styOk (nth sy0 l k) = true) : ∀ j, j < k + 1 → styOk (nth sy0 l j) = true := by
  intro j hj
  by_cases e : j = k
  · rw [e]; exact hk
  · exact h j (by omega)

end Go.Proofs.Ythcplebmffbmpaa
