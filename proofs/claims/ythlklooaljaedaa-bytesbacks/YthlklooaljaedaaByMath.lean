/- Numbers as bytes: plain functions and what follows of them. -/
import Derived.Test.YthlklooaljaedaaLay
import Derived.Laws.BitsAllLaws
namespace Go.Proofs.Ythlklooaljaedaa

/-- May a number be written? -/
def canB (n : Int) : Bool := decide (-1099511627776 ≤ n) && decide (n ≤ 1099511627776)
/-- Its rank. -/
def rk (n : Int) : Nat := if 0 ≤ n then (2 * n).toNat else (-1 - 2 * n).toNat
/-- The number of a rank. -/
def un (r : Nat) : Int := if r % 2 = 1 then -1 - ((r / 2 : Nat) : Int) else ((r / 2 : Nat) : Int)

/-- A rank's bytes. -/
def enc (r : Nat) : List Int := if r < 128 then [(r : Int)] else ((r % 128 + 128 : Nat) : Int) :: enc (r / 128)
termination_by r
decreasing_by omega
def bytesOf (n : Int) : List Int := enc (rk n)
def numL (n : Int) : List Int × Int := if canB n = true then (bytesOf n, 0) else ([], 2)

/-- What is read, of k bytes at most, where i were read, and made x. -/
def rd : Nat → Nat → Nat → List Int → Int × Int × Int
  | 0, _, _, _ => (0, 0, 8)
  | _ + 1, _, _, [] => (0, 0, 8)
  | k + 1, i, x, b :: t =>
    if b < 128 then
      if (0 < i ∧ b = 0) ∨ 2199023255552 < x + b.toNat % 128 * 128 ^ i then (0, 0, 8) else (un (x + b.toNat % 128 * 128 ^ i), (i : Int) + 1, 0)
    else rd k (i + 1) (x + b.toNat % 128 * 128 ^ i) t
def readL (l : List Int) : Int × Int × Int := rd 6 0 0 l

theorem canB_iff {n : Int} : canB n = true ↔ -1099511627776 ≤ n ∧ n ≤ 1099511627776 := by simp [canB]
theorem rk_le {n : Int} (h : canB n = true) : rk n ≤ 2199023255552 := by
  rw [canB_iff] at h
  unfold rk
  split <;> omega
theorem un_rk (n : Int) : un (rk n) = n := by
  unfold un rk
  split <;> split <;> omega
theorem rk_un (r : Nat) : rk (un r) = r := by
  unfold un rk
  split <;> split <;> omega
theorem canB_un {r : Nat} : canB (un r) = true ↔ r ≤ 2199023255552 := by
  rw [canB_iff]
  unfold un
  split <;> omega

def Byt (l : List Int) : Prop := ∀ x ∈ l, 0 ≤ x ∧ x < 256
theorem enc_byt (r : Nat) : Byt (enc r) := by
  induction r using Nat.strongRecOn with
  | ind r ih =>
    rw [enc]
    split
    · intro x hx
      simp only [List.mem_cons, List.not_mem_nil, or_false] at hx
      omega
    · intro x hx
      rcases List.mem_cons.1 hx with rfl | hx
      · omega
      · exact ih (r / 128) (by omega) x hx
theorem enc_pos (r : Nat) : 1 ≤ (enc r).length := by
  rw [enc]
  split <;> simp
theorem enc_len : ∀ (k r : Nat), r < 128 ^ (k + 1) → (enc r).length ≤ k + 1
  | 0, r, h => by
    rw [enc, if_pos (by omega)]
    simp
  | k + 1, r, h => by
    rw [enc]
    split
    · simp
    · have := enc_len k (r / 128) (by rw [Nat.pow_succ] at h; exact Nat.div_lt_of_lt_mul (by omega))
      simp only [List.length_cons]
      omega
theorem bytesOf_len {n : Int} (h : canB n = true) : (bytesOf n).length ≤ 6 := enc_len 5 _ (by have := rk_le h; omega)
theorem bytesOf_pos (n : Int) : 1 ≤ (bytesOf n).length := enc_pos _
theorem bytesOf_byt (n : Int) : Byt (bytesOf n) := enc_byt _

theorem rd_join (x r i : Nat) : x + r % 128 * 128 ^ i + r / 128 * 128 ^ (i + 1) = x + r * 128 ^ i := by
  have h := Nat.div_add_mod r 128
  have e : r * 128 ^ i = (128 * (r / 128) + r % 128) * 128 ^ i := by rw [h]
  rw [e, Nat.pow_succ, Nat.add_mul, Nat.mul_comm (128 ^ i) 128, ← Nat.mul_assoc, Nat.mul_comm (r / 128) 128]
  omega

/-- What is written is read. -/
theorem rd_enc : ∀ (k i x r : Nat) (t : List Int), r < 128 ^ (k + 1) → (i = 0 ∨ 0 < r) → x + r * 128 ^ i ≤ 2199023255552 → rd (k + 1) i x (enc r ++ t) = (un (x + r * 128 ^ i), ((i + (enc r).length : Nat) : Int), 0)
  | k, i, x, r, t, h, h0, hm => by
    rw [enc]
    by_cases hr : r < 128
    · rw [if_pos hr, List.cons_append, List.nil_append, rd]
      have e : ((r : Nat) : Int).toNat % 128 = r := by omega
      rw [if_pos (by omega), e, if_neg (by omega)]
      simp
    · rw [if_neg hr, List.cons_append, rd]
      have e : ((r % 128 + 128 : Nat) : Int).toNat % 128 = r % 128 := by omega
      have e2 := rd_join x r i
      rw [if_neg (by omega), e]
      match k, h with
      | 0, h => exfalso; omega
      | k + 1, h =>
        rw [rd_enc k (i + 1) _ (r / 128) t (by rw [Nat.pow_succ] at h; exact Nat.div_lt_of_lt_mul (by omega)) (.inr (by omega)) (by rw [e2]; exact hm), e2]
        simp only [List.length_cons, Prod.mk.injEq, true_and, and_true]
        omega
theorem read_bytes {n : Int} (h : canB n = true) (t : List Int) : readL (bytesOf n ++ t) = (n, ((bytesOf n).length : Int), 0) := by
  have hr := rk_le h
  have := rd_enc 5 0 0 (rk n) t (by omega) (.inl rfl) (by omega)
  rw [readL, bytesOf, this, Nat.pow_zero, Nat.mul_one, Nat.zero_add, Nat.zero_add, un_rk]

/-- What is read is written so. -/
theorem rd_back : ∀ (k i x : Nat) (l : List Int) (a w : Int), Byt l → rd k i x l = (a, w, 0) →
    ∃ r m : Nat, a = un (x + r * 128 ^ i) ∧ w = ((i + m : Nat) : Int) ∧ (i = 0 ∨ 0 < r) ∧ x + r * 128 ^ i ≤ 2199023255552 ∧ enc r = l.take m ∧ m ≤ l.length ∧ 1 ≤ m ∧ m ≤ k
  | 0, i, x, l, a, w, hb, h => by simp [rd] at h
  | k + 1, i, x, [], a, w, hb, h => by simp [rd] at h
  | k + 1, i, x, b :: t, a, w, hb, h => by
    have hb0 := hb b (by simp)
    rw [rd] at h
    by_cases hlt : b < 128
    · rw [if_pos hlt] at h
      by_cases hc : (0 < i ∧ b = 0) ∨ 2199023255552 < x + b.toNat % 128 * 128 ^ i
      · rw [if_pos hc] at h
        simp at h
      · rw [if_neg hc] at h
        have e : b.toNat % 128 = b.toNat := by omega
        rw [e] at h hc
        simp only [Prod.mk.injEq, and_true] at h
        refine ⟨b.toNat, 1, h.1.symm, by rw [← h.2]; simp, by omega, by omega, ?_, by simp, Nat.le_refl _, by omega⟩
        rw [enc, if_pos (by omega)]
        simp
        omega
    · rw [if_neg hlt] at h
      obtain ⟨r, m, h1, h2, h3, h4, h5, h6, h7, h8⟩ := rd_back k (i + 1) _ t a w (fun y hy => hb y (by simp [hy])) h
      have hr : 0 < r := by omega
      have e2 := rd_join x (b.toNat % 128 + 128 * r) i
      have e3 : (b.toNat % 128 + 128 * r) % 128 = b.toNat % 128 := by omega
      have e4 : (b.toNat % 128 + 128 * r) / 128 = r := by omega
      rw [e3, e4] at e2
      refine ⟨b.toNat % 128 + 128 * r, m + 1, by rw [h1, e2], by rw [h2]; omega, by omega, by rw [← e2]; exact h4, ?_, by simp; omega, by omega, by omega⟩
      rw [enc, if_neg (by omega), e3, e4, h5, List.take_succ_cons]
      congr 1
      omega
theorem read_back {l : List Int} {a w : Int} (hb : Byt l) (h : readL l = (a, w, 0)) : canB a = true ∧ 1 ≤ w ∧ w ≤ 6 ∧ w ≤ l.length ∧ bytesOf a = l.take w.toNat := by
  obtain ⟨r, m, h1, h2, h3, h4, h5, h6, h7, h8⟩ := rd_back 6 0 0 l a w hb h
  rw [Nat.pow_zero, Nat.mul_one, Nat.zero_add] at h1 h4
  rw [Nat.zero_add] at h2
  subst h1 h2
  exact ⟨canB_un.2 h4, by omega, by omega, by omega, by rw [bytesOf, rk_un, h5, Int.toNat_natCast]⟩
theorem rd_err : ∀ (k i x : Nat) (l : List Int), rd k i x l = (0, 0, 8) ∨ (rd k i x l).2.2 = 0
  | 0, i, x, l => by simp [rd]
  | k + 1, i, x, [] => by simp [rd]
  | k + 1, i, x, b :: t => by
    rw [rd]
    split
    · split
      · exact .inl rfl
      · exact .inr rfl
    · exact rd_err k (i + 1) _ t
theorem read_err (l : List Int) (h : (readL l).2.2 ≠ 0) : readL l = (0, 0, 8) := (rd_err 6 0 0 l).resolve_right h

/-- Lists. -/
def listL (l : List Int) : List Int × Int := if 65536 < l.length then ([], 4) else if l.all canB = true then (bytesOf l.length ++ l.flatMap bytesOf, 0) else ([], 2)
def getL : Nat → List Int → Option (List Int × Nat)
  | 0, _ => some ([], 0)
  | c + 1, l => if (readL l).2.2 = 0 then (getL c (l.drop (readL l).2.1.toNat)).map fun p => ((readL l).1 :: p.1, (readL l).2.1.toNat + p.2) else none
def getsL (acc : List Int) (w c : Nat) (l : List Int) : List Int × Int × Int := match getL c (l.drop w) with
  | some p => (acc ++ p.1, ((w + p.2 : Nat) : Int), 0)
  | none => ([], 0, 8)
theorem getsL_zero (acc : List Int) (w : Nat) (l : List Int) : getsL acc w 0 l = (acc, (w : Int), 0) := by simp [getsL, getL]
theorem getsL_bad {acc : List Int} {w c : Nat} {l : List Int} (h : (readL (l.drop w)).2.2 ≠ 0) : getsL acc w (c + 1) l = ([], 0, 8) := by
  rw [getsL, getL, if_neg h]
theorem getsL_next {acc : List Int} {w c : Nat} {l : List Int} (h : (readL (l.drop w)).2.2 = 0) : getsL acc w (c + 1) l = getsL (acc ++ [(readL (l.drop w)).1]) (w + (readL (l.drop w)).2.1.toNat) c l := by
  rw [getsL, getL, if_pos h, List.drop_drop, getsL]
  cases getL c (l.drop (w + (readL (l.drop w)).2.1.toNat)) with
  | none => rfl
  | some p => simp [Nat.add_assoc]
def badL (l : List Int) (most : Int) : Bool := decide ((readL l).2.2 ≠ 0) || (decide ((readL l).1 < 0) || decide (most < (readL l).1))
def readsL (l : List Int) (most : Int) : List Int × Int × Int :=
  if most < 0 ∨ 65536 < most then ([], 0, 2) else if badL l most = true then ([], 0, 8) else getsL [] (readL l).2.1.toNat (readL l).1.toNat l

theorem Byt.drop {l : List Int} (h : Byt l) (k : Nat) : Byt (l.drop k) := fun x hx => h x (List.mem_of_mem_drop hx)
theorem get_bytes : ∀ (l t : List Int), l.all canB = true → getL l.length (l.flatMap bytesOf ++ t) = some (l, (l.flatMap bytesOf).length)
  | [], t, _ => rfl
  | a :: l, t, h => by
    rw [List.all_cons, Bool.and_eq_true] at h
    rw [List.length_cons, List.flatMap_cons, List.append_assoc, getL, read_bytes h.1]
    simp only [Int.toNat_natCast, if_true, List.drop_left]
    rw [get_bytes l t h.2]
    simp
theorem get_back : ∀ (c : Nat) (l m : List Int) (s : Nat), Byt l → getL c l = some (m, s) → m.length = c ∧ m.all canB = true ∧ s ≤ l.length ∧ m.flatMap bytesOf = l.take s ∧ c ≤ s
  | 0, l, m, s, hb, h => by
    simp only [getL, Option.some.injEq, Prod.mk.injEq] at h
    obtain ⟨rfl, rfl⟩ := h
    simp
  | c + 1, l, m, s, hb, h => by
    rw [getL] at h
    by_cases he : (readL l).2.2 = 0
    · rw [if_pos he] at h
      obtain ⟨⟨m', s'⟩, h1, h2⟩ := Option.map_eq_some_iff.1 h
      simp only [Prod.mk.injEq] at h2
      obtain ⟨rfl, rfl⟩ := h2
      obtain ⟨b1, b2, b3, b4, b5⟩ := read_back (a := (readL l).1) (w := (readL l).2.1) hb (by rw [← he])
      obtain ⟨g1, g2, g3, g4, g5⟩ := get_back c _ m' s' (hb.drop _) h1
      have hd : (l.drop (readL l).2.1.toNat).length = l.length - (readL l).2.1.toNat := List.length_drop
      refine ⟨by simp [g1], by rw [List.all_cons, b1, g2]; rfl, by omega, ?_, by omega⟩
      rw [List.flatMap_cons, b5, g4, List.take_add]
    · rw [if_neg he] at h
      simp at h
theorem readL_eta (l : List Int) : readL l = ((readL l).1, (readL l).2.1, (readL l).2.2) := rfl
theorem bytes_cut {l : List Int} (hb : Byt l) (h : (readL l).2.2 = 0) : canB (readL l).1 = true ∧ 1 ≤ (readL l).2.1 ∧ (readL l).2.1 ≤ 6 ∧ (readL l).2.1 ≤ l.length ∧ bytesOf (readL l).1 = l.take (readL l).2.1.toNat :=
  read_back hb (by rw [← h])
theorem canB_len {k : Nat} (h : k ≤ 65536) : canB (k : Int) = true := by rw [canB_iff]; omega
theorem list_reads (l t : List Int) (h : (listL l).2 = 0) : readsL ((listL l).1 ++ t) l.length = (l, ((listL l).1.length : Int), 0) := by
  unfold listL at *
  by_cases h1 : 65536 < l.length
  · rw [if_pos h1] at h; simp at h
  rw [if_neg h1] at h ⊢
  by_cases h2 : l.all canB = true
  · rw [if_pos h2]
    have hr := read_bytes (canB_len (k := l.length) (by omega)) (l.flatMap bytesOf ++ t)
    simp only [List.append_assoc]
    rw [readsL, if_neg (by omega), badL, hr, if_neg (by simp), getsL, Int.toNat_natCast, Int.toNat_natCast, List.drop_left, get_bytes l t h2]
    simp
  · rw [if_neg h2] at h; simp at h
theorem all_canB {l : List Int} {k : Nat} (hk : k < l.length) (h : canB (nth 0 l k) = false) : l.all canB = false := by
  rw [List.all_eq_false]
  exact ⟨_, nth_mem hk, by rw [h]; decide⟩
def pfx (l : List Int) (k : Nat) : List Int := bytesOf l.length ++ (l.take k).flatMap bytesOf
theorem pfx_zero (l : List Int) : pfx l 0 = bytesOf l.length := by simp [pfx]
theorem pfx_succ {l : List Int} {k : Nat} (hk : k < l.length) : pfx l (k + 1) = pfx l k ++ bytesOf (nth 0 l k) := by
  rw [pfx, take_nth (d := 0) hk, List.flatMap_append, pfx, List.append_assoc]
  simp
theorem pfx_len {l : List Int} (hl : l.length ≤ 65536) : ∀ k, k ≤ l.length → (∀ j, j < k → canB (nth 0 l j) = true) → (pfx l k).length ≤ 6 * (k + 1)
  | 0, _, _ => by
    rw [pfx_zero]
    have := bytesOf_len (canB_len hl)
    omega
  | k + 1, hk, h => by
    have h1 := pfx_len hl k (by omega) (fun j hj => h j (by omega))
    have h2 := bytesOf_len (h k (by omega))
    rw [pfx_succ (by omega), List.length_append]
    omega
theorem pfx_all {l : List Int} (hl : l.length ≤ 65536) (h : ∀ j, j < l.length → canB (nth 0 l j) = true) : listL l = (pfx l l.length, 0) := by
  rw [listL, if_neg (by omega), if_pos, pfx, List.take_length]
  rw [List.all_eq_true]
  intro x hx
  obtain ⟨k, hk, rfl⟩ := List.getElem_of_mem hx
  have := h k hk
  rwa [nth_eq hk] at this
theorem list_bad {l : List Int} {k : Nat} (hl : l.length ≤ 65536) (hk : k < l.length) (h : canB (nth 0 l k) = false) : listL l = ([], 2) := by
  rw [listL, if_neg (by omega), if_neg (by rw [all_canB hk h]; decide)]
theorem reads_list {b m : List Int} {most w : Int} (hb : Byt b) (h : readsL b most = (m, w, 0)) : listL m = (b.take w.toNat, 0) ∧ 0 ≤ w ∧ w ≤ b.length ∧ (m.length : Int) ≤ most := by
  unfold readsL at h
  by_cases h1 : most < 0 ∨ 65536 < most
  · rw [if_pos h1] at h; simp at h
  rw [if_neg h1] at h
  by_cases h2 : badL b most = true
  · rw [if_pos h2] at h; simp at h
  rw [if_neg h2] at h
  simp only [badL, Bool.or_eq_true, decide_eq_true_eq, not_or, Decidable.not_not] at h2
  obtain ⟨he, hn, hm⟩ := h2
  obtain ⟨c1, c2, c3, c4, c5⟩ := bytes_cut hb he
  unfold getsL at h
  split at h
  · rename_i p hp
    simp only [Prod.mk.injEq, and_true] at h
    obtain ⟨rfl, rfl⟩ := h
    obtain ⟨g1, g2, g3, g4, g5⟩ := get_back _ _ p.1 p.2 (hb.drop _) hp
    have hd : (b.drop (readL b).2.1.toNat).length = b.length - (readL b).2.1.toNat := List.length_drop
    rw [List.nil_append]
    refine ⟨?_, by omega, by omega, by omega⟩
    have e1 : ((p.1.length : Nat) : Int) = (readL b).1 := by omega
    rw [listL, if_neg (by omega), if_pos g2, e1, c5, g4, Int.toNat_natCast, List.take_add]
  · simp at h
theorem reads_err {b : List Int} {most : Int} (h : (readsL b most).2.2 ≠ 0) : (readsL b most).1 = [] ∧ (readsL b most).2.1 = 0 := by
  unfold readsL at *
  split
  · exact ⟨rfl, rfl⟩
  split
  · exact ⟨rfl, rfl⟩
  rw [if_neg (by assumption), if_neg (by assumption)] at h
  unfold getsL at *
  split
  · rename_i p hp
    rw [hp] at h
    simp at h
  · exact ⟨rfl, rfl⟩
end Go.Proofs.Ythlklooaljaedaa
