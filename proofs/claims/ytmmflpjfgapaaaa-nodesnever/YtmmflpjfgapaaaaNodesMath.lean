/- The plain mathematics of layer 6: graphs of nodes, what becomes of them, and that no node ever reaches itself. -/
import Derived.Test.YtmmflpjfgapaaaaReach
namespace Go.Proofs.Ytmmflpjfgapaaaa
open Go.RowKit

/-- a graph: slots, and each one's children -/
structure Gr where
  sl : List Sl
  ks : List (List (Int × Int))
def kof (ks : List (List (Int × Int))) (i : Nat) : List Nat := (nth [] ks i).map fun h => h.1.toNat
def rowOk (sl : List Sl) (i : Nat) (r : List (Int × Int)) : Bool := decide (r.length ≤ 16) && ((decide (r.length = 0) || (nth dSl sl i).live) && r.all fun h => heldIn sl h.1 h.2)
def rowsOk (g : Gr) : Bool := (List.range g.ks.length).all fun i => rowOk g.sl i (nth [] g.ks i)
def looseB (g : Gr) : Bool := decide (cnt (countedL (kof g.ks) g.ks.length) = g.ks.length)
def grOk (g : Gr) : Bool := (arOk g.sl && decide (g.ks.length = g.sl.length)) && (rowsOk g && looseB g)
def grErr (g : Gr) : Int := if grOk g = true then 0 else 8
def askErr (g : Gr) (h i : Int × Int) : Int := if grOk g = true then (if heldIn g.sl h.1 h.2 = true ∧ heldIn g.sl i.1 i.2 = true then 0 else 50) else 8
def makeGErr (g : Gr) : Int := if grOk g = true then mkErr g.sl else 8
def makeG (g : Gr) : Gr := ⟨mkList g.sl, if g.ks.length < (mkList g.sl).length then g.ks ++ [[]] else g.ks⟩
def without (h : Int × Int) (l : List (Int × Int)) : List (Int × Int) := l.filter fun x => !decide (x = h)
def killG (g : Gr) (h : Int × Int) : Gr := ⟨killList g.sl h.1, (g.ks.map (without h)).set h.1.toNat []⟩
def rowAt (g : Gr) (h : Int × Int) : List (Int × Int) := nth [] g.ks h.1.toNat
def reachB (g : Gr) (a b : Int × Int) : Bool := nth false (below (kof g.ks) g.ks.length a.1.toNat) b.1.toNat
def put (r : List (Int × Int)) (k : Nat) (c : Int × Int) : List (Int × Int) := r.take k ++ c :: r.drop k
def cut (r : List (Int × Int)) (k : Nat) : List (Int × Int) := r.take k ++ r.drop (k + 1)
def linkErr (g : Gr) (p c : Int × Int) (k : Int) : Int :=
  if askErr g p c = 0 then (if 0 ≤ k ∧ k ≤ (rowAt g p).length then (if 16 ≤ (rowAt g p).length then 9 else if reachB g c p = true then 60 else 0) else 2) else askErr g p c
def linkG (g : Gr) (p c : Int × Int) (k : Int) : Gr := ⟨g.sl, g.ks.set p.1.toNat (put (rowAt g p) k.toNat c)⟩
def unlinkErr (g : Gr) (p : Int × Int) (k : Int) : Int :=
  if askErr g p p = 0 then (if 0 ≤ k ∧ k < (rowAt g p).length then 0 else 2) else askErr g p p
def unlinkG (g : Gr) (p : Int × Int) (k : Int) : Gr := ⟨g.sl, g.ks.set p.1.toNat (cut (rowAt g p) k.toNat)⟩
/-- the parents among the first k slots -/
def parentsTo (g : Gr) (h : Int × Int) : Nat → List (Int × Int)
  | 0 => []
  | k + 1 => parentsTo g h k ++ ((nth [] g.ks k).filter fun x => decide (x = h)).map fun _ => ((k : Int), (nth dSl g.sl k).gen)

/-! What may be -/
theorem gr_parts {g : Gr} (h : grOk g = true) : arOk g.sl = true ∧ g.ks.length = g.sl.length ∧ rowsOk g = true ∧ looseB g = true := by
  simp only [grOk, Bool.and_eq_true, decide_eq_true_eq] at h
  exact ⟨h.1.1, h.1.2, h.2.1, h.2.2⟩
theorem gr_mk {g : Gr} (h1 : arOk g.sl = true) (h2 : g.ks.length = g.sl.length) (h3 : rowsOk g = true) (h4 : looseB g = true) : grOk g = true := by
  simp only [grOk, Bool.and_eq_true, decide_eq_true_eq]
  exact ⟨⟨h1, h2⟩, h3, h4⟩
theorem rows_at {g : Gr} (h : rowsOk g = true) {i : Nat} (hi : i < g.ks.length) : (nth [] g.ks i).length ≤ 16 ∧ ((nth [] g.ks i).length = 0 ∨ (nth dSl g.sl i).live = true) ∧ ∀ x, x ∈ nth [] g.ks i → heldIn g.sl x.1 x.2 = true := by
  have := List.all_eq_true.1 h i (List.mem_range.2 hi)
  simp only [rowOk, Bool.and_eq_true, Bool.or_eq_true, decide_eq_true_eq, List.all_eq_true] at this
  exact this
theorem rows_mk {g : Gr} (h : ∀ i, i < g.ks.length → (nth [] g.ks i).length ≤ 16 ∧ ((nth [] g.ks i).length = 0 ∨ (nth dSl g.sl i).live = true) ∧ ∀ x, x ∈ nth [] g.ks i → heldIn g.sl x.1 x.2 = true) : rowsOk g = true := by
  refine List.all_eq_true.2 fun i hi => ?_
  simp only [rowOk, Bool.and_eq_true, Bool.or_eq_true, decide_eq_true_eq, List.all_eq_true]
  exact h i (List.mem_range.1 hi)
theorem kof_mem {ks : List (List (Int × Int))} {i c : Nat} : c ∈ kof ks i ↔ ∃ x, x ∈ nth [] ks i ∧ x.1.toNat = c := by
  simp [kof]
theorem held_lt {l : List Sl} {s g : Int} (h : heldIn l s g = true) : s.toNat < l.length ∧ 0 ≤ s := by
  have := held_spec.1 h
  omega
theorem kof_lt {g : Gr} (h2 : g.ks.length = g.sl.length) (h3 : rowsOk g = true) : ∀ i, i < g.ks.length → ∀ c, c ∈ kof g.ks i → c < g.ks.length := by
  intro i hi c hc
  obtain ⟨x, hx, rfl⟩ := kof_mem.1 hc
  have := held_lt ((rows_at h3 hi).2.2 x hx)
  omega
theorem loose_iff {g : Gr} (h2 : g.ks.length = g.sl.length) (h3 : rowsOk g = true) : looseB g = true ↔ Acyc (kof g.ks) g.ks.length := by
  unfold looseB
  rw [decide_eq_true_eq]
  exact counted_iff (kof_lt h2 h3)
theorem gr_acyc {g : Gr} (h : grOk g = true) : Acyc (kof g.ks) g.ks.length := by
  obtain ⟨_, h2, h3, h4⟩ := gr_parts h
  exact (loose_iff h2 h3).1 h4
theorem reachB_iff {g : Gr} (h : grOk g = true) {a b : Int × Int} (ha : heldIn g.sl a.1 a.2 = true) : reachB g a b = true ↔ Reach (kof g.ks) a.1.toNat b.1.toNat := by
  obtain ⟨_, h2, h3, _⟩ := gr_parts h
  exact below_spec (kof_lt h2 h3) (by have := held_lt ha; omega) _

/-! What is linked, taken out, made and killed may be -/
theorem nth_map {α β : Type} {d : α} {e : β} {f : α → β} (hd : f d = e) (l : List α) (k : Nat) : nth e (l.map f) k = f (nth d l k) := by
  unfold nth
  simp only [List.getD_eq_getElem?_getD, List.getElem?_map]
  cases l[k]? with
  | none => simp [hd]
  | some x => simp
theorem put_mem {r : List (Int × Int)} {k : Nat} {c x : Int × Int} (h : x ∈ put r k c) : x ∈ r ∨ x = c := by
  unfold put at h
  rcases List.mem_append.1 h with h | h
  · exact .inl (List.mem_of_mem_take h)
  · rcases List.mem_cons.1 h with h | h
    · exact .inr h
    · exact .inl (List.mem_of_mem_drop h)
theorem put_len {r : List (Int × Int)} {k : Nat} {c : Int × Int} (hk : k ≤ r.length) : (put r k c).length = r.length + 1 := by
  unfold put
  rw [List.length_append, List.length_take, List.length_cons, List.length_drop]
  omega
theorem cut_mem {r : List (Int × Int)} {k : Nat} {x : Int × Int} (h : x ∈ cut r k) : x ∈ r := by
  unfold cut at h
  rcases List.mem_append.1 h with h | h
  · exact List.mem_of_mem_take h
  · exact List.mem_of_mem_drop h
theorem cut_len {r : List (Int × Int)} {k : Nat} : (cut r k).length ≤ r.length := by
  unfold cut
  rw [List.length_append, List.length_take, List.length_drop]
  omega
theorem cut_put {r : List (Int × Int)} {k : Nat} {c : Int × Int} (hk : k ≤ r.length) : cut (put r k c) k = r := by
  unfold cut put
  have h1 : (r.take k).length = k := by rw [List.length_take]; omega
  rw [List.take_append_of_le_length (by omega), List.take_of_length_le (by omega), List.drop_append, h1, List.drop_eq_nil_of_le (by omega), show k + 1 - k = 1 by omega, List.nil_append]
  show r.take k ++ r.drop k = r
  exact List.take_append_drop k r
theorem nth_put {r : List (Int × Int)} {k : Nat} {c : Int × Int} (hk : k ≤ r.length) : nth (0, 0) (put r k c) k = c := by
  unfold put
  have h1 : (r.take k).length = k := by rw [List.length_take]; omega
  rw [nth_append_right (by omega), h1, Nat.sub_self]
  rfl
theorem link_parts {g : Gr} {p c : Int × Int} {k : Int} (h : linkErr g p c k = 0) : grOk g = true ∧ heldIn g.sl p.1 p.2 = true ∧ heldIn g.sl c.1 c.2 = true ∧ 0 ≤ k ∧ k ≤ (rowAt g p).length ∧ (rowAt g p).length < 16 ∧ reachB g c p = false := by
  unfold linkErr at h
  split at h
  · rename_i h1
    unfold askErr at h1
    split at h1
    · rename_i hg
      split at h1
      · rename_i hh
        split at h
        · rename_i hk
          split at h
          · cases h
          · rename_i h16
            split at h
            · cases h
            · rename_i hr
              exact ⟨hg, hh.1, hh.2, hk.1, hk.2, by omega, by simpa using hr⟩
        · cases h
      · cases h1
    · cases h1
  · rename_i h1
    exact absurd h h1
theorem set_rows {g : Gr} {p : Nat} {r : List (Int × Int)} (h : grOk g = true) (hp : p < g.ks.length) (hl : r.length ≤ 16) (hv : (nth dSl g.sl p).live = true) (hh : ∀ x, x ∈ r → heldIn g.sl x.1 x.2 = true) : rowsOk ⟨g.sl, g.ks.set p r⟩ = true := by
  obtain ⟨_, _, h3, _⟩ := gr_parts h
  refine rows_mk fun i hi => ?_
  simp only [List.length_set] at hi ⊢
  rw [nth_set' hp]
  split
  · rename_i e; subst e; exact ⟨hl, .inr hv, hh⟩
  · exact rows_at h3 hi
theorem linkG_ok {g : Gr} {p c : Int × Int} {k : Int} (h : linkErr g p c k = 0) : grOk (linkG g p c k) = true := by
  obtain ⟨hg, hp, hc, k0, k1, h16, hr⟩ := link_parts h
  obtain ⟨h1, h2, h3, h4⟩ := gr_parts hg
  have hpl := held_lt hp
  have hrow := rows_at h3 (i := p.1.toNat) (by omega)
  have hpk : (put (rowAt g p) k.toNat c).length = (rowAt g p).length + 1 := put_len (by omega)
  have hrows : rowsOk (linkG g p c k) = true := set_rows hg (by omega) (by rw [hpk]; omega) (held_spec.1 hp).2.1 (fun x hx => by
    rcases put_mem hx with hx | rfl
    · exact hrow.2.2 x hx
    · exact hc)
  have hlen : (linkG g p c k).ks.length = (linkG g p c k).sl.length := by
    show (g.ks.set _ _).length = g.sl.length
    rw [List.length_set, h2]
  refine gr_mk h1 hlen hrows ((loose_iff hlen hrows).2 ?_)
  rw [show (linkG g p c k).ks.length = g.ks.length by show (g.ks.set _ _).length = _; rw [List.length_set]]
  refine acyc_link (p := p.1.toNat) (x := c.1.toNat) (fun i y hy => ?_) (gr_acyc hg) (fun hre => ?_)
  · obtain ⟨x, hx, rfl⟩ := kof_mem.1 hy
    have hx' : x ∈ nth [] (g.ks.set p.1.toNat (put (rowAt g p) k.toNat c)) i := hx
    rw [nth_set' (by omega)] at hx'
    split at hx'
    · rename_i e
      subst e
      rcases put_mem hx' with h5 | rfl
      · exact .inl (kof_mem.2 ⟨x, h5, rfl⟩)
      · exact .inr ⟨rfl, rfl⟩
    · exact .inl (kof_mem.2 ⟨x, hx', rfl⟩)
  · rw [(reachB_iff hg hc).2 hre] at hr
    cases hr
theorem sub_ok {g : Gr} {ks' : List (List (Int × Int))} (hg : grOk g = true) (hlen : ks'.length = g.ks.length) (hs : ∀ i, (nth [] ks' i).length ≤ (nth [] g.ks i).length ∧ ∀ x, x ∈ nth [] ks' i → x ∈ nth [] g.ks i) : grOk ⟨g.sl, ks'⟩ = true := by
  obtain ⟨h1, h2, h3, h4⟩ := gr_parts hg
  have hrows : rowsOk ⟨g.sl, ks'⟩ = true := rows_mk fun i hi => by
    have hi' : i < ks'.length := hi
    have hr := rows_at h3 (i := i) (by omega)
    have := hs i
    show (nth [] ks' i).length ≤ 16 ∧ ((nth [] ks' i).length = 0 ∨ (nth dSl g.sl i).live = true) ∧ ∀ x, x ∈ nth [] ks' i → heldIn g.sl x.1 x.2 = true
    exact ⟨by omega, hr.2.1.imp (fun e => by omega) id, fun x hx => hr.2.2 x (this.2 x hx)⟩
  have hl2 : (Gr.mk g.sl ks').ks.length = (Gr.mk g.sl ks').sl.length := by show ks'.length = g.sl.length; omega
  refine gr_mk h1 hl2 hrows ((loose_iff hl2 hrows).2 ?_)
  show Acyc (kof ks') ks'.length
  rw [hlen]
  refine acyc_sub (fun i c hc => ?_) (gr_acyc hg)
  obtain ⟨x, hx, rfl⟩ := kof_mem.1 hc
  exact kof_mem.2 ⟨x, (hs i).2 x hx, rfl⟩
theorem unlinkG_ok {g : Gr} {p : Int × Int} {k : Int} (hg : grOk g = true) : grOk (unlinkG g p k) = true := by
  refine sub_ok hg (by rw [List.length_set]) fun i => ?_
  by_cases hp : p.1.toNat < g.ks.length
  · rw [nth_set' hp]
    split
    · rename_i e; subst e; exact ⟨cut_len, fun x hx => cut_mem hx⟩
    · exact ⟨Nat.le_refl _, fun x hx => hx⟩
  · rw [List.set_eq_of_length_le (by omega)]
    exact ⟨Nat.le_refl _, fun x hx => hx⟩

theorem held_kill {l : List Sl} {s g : Int} {x : Int × Int} (h : heldIn l s g = true) (hx : heldIn l x.1 x.2 = true) (hne : x ≠ (s, g)) : heldIn (killList l s) x.1 x.2 = true := by
  obtain ⟨⟨h0, h1⟩, hv, hg⟩ := held_spec.1 h
  obtain ⟨⟨x0, x1⟩, xv, xg⟩ := held_spec.1 hx
  rw [held_spec]
  unfold killList
  rw [List.length_set, nth_set' (by omega)]
  have hn : ¬ x.1.toNat = s.toNat := by
    intro e
    apply hne
    apply Prod.ext
    · show x.1 = s
      omega
    · show x.2 = g
      rw [← xg, ← hg, e]
  rw [if_neg hn]
  exact ⟨⟨x0, x1⟩, xv, xg⟩
theorem kill_row {g : Gr} {h : Int × Int} (hl : h.1.toNat < g.ks.length) (i : Nat) : nth [] (killG g h).ks i = if i = h.1.toNat then [] else without h (nth [] g.ks i) := by
  show nth [] ((g.ks.map (without h)).set h.1.toNat []) i = _
  rw [nth_set' (by rw [List.length_map]; exact hl)]
  split
  · rfl
  · exact nth_map (d := ([] : List (Int × Int))) (e := []) (f := without h) rfl g.ks i
theorem without_mem {h x : Int × Int} {l : List (Int × Int)} : x ∈ without h l ↔ x ∈ l ∧ x ≠ h := by
  simp [without]
theorem killG_ok {g : Gr} {h : Int × Int} (hg : grOk g = true) (hh : heldIn g.sl h.1 h.2 = true) : grOk (killG g h) = true := by
  obtain ⟨h1, h2, h3, h4⟩ := gr_parts hg
  have hl := held_lt hh
  have hlen : (killG g h).ks.length = (killG g h).sl.length := by
    show ((g.ks.map (without h)).set _ _).length = (killList g.sl h.1).length
    rw [List.length_set, List.length_map, killList, List.length_set, h2]
  have hkl : (killG g h).ks.length = g.ks.length := by
    show ((g.ks.map (without h)).set _ _).length = _
    rw [List.length_set, List.length_map]
  have hrows : rowsOk (killG g h) = true := rows_mk fun i hi => by
    rw [hkl] at hi
    have hr := rows_at h3 hi
    rw [kill_row (by omega)]
    split
    · exact ⟨by simp, .inl rfl, fun x hx => by simp at hx⟩
    · rename_i hne
      have hle : (without h (nth [] g.ks i)).length ≤ (nth [] g.ks i).length := List.length_filter_le _ _
      refine ⟨by omega, ?_, fun x hx => held_kill hh (hr.2.2 x (without_mem.1 hx).1) (without_mem.1 hx).2⟩
      rcases hr.2.1 with e | e
      · exact .inl (by omega)
      · right
        show (nth dSl (killList g.sl h.1) i).live = true
        unfold killList
        rw [nth_set' (by omega), if_neg hne]
        exact e
  refine gr_mk (killList_ok h1 (by omega)) hlen hrows ((loose_iff hlen hrows).2 ?_)
  rw [hkl]
  refine acyc_sub (fun i c hc => ?_) (gr_acyc hg)
  obtain ⟨x, hx, rfl⟩ := kof_mem.1 hc
  rw [kill_row (by omega)] at hx
  split at hx
  · simp at hx
  · exact kof_mem.2 ⟨x, (without_mem.1 hx).1, rfl⟩

theorem held_make {l : List Sl} {x : Int × Int} (hx : heldIn l x.1 x.2 = true) : heldIn (mkList l) x.1 x.2 = true := by
  obtain ⟨⟨x0, x1⟩, xv, xg⟩ := held_spec.1 hx
  rw [(mk_other x0 x1 (by omega)).1]
  exact hx
theorem mkList_len (l : List Sl) : (mkList l).length = if freeAt l < l.length then l.length else l.length + 1 := by
  unfold mkList
  split
  · rw [List.length_set]
  · rw [List.length_append]; rfl
theorem makeG_row (g : Gr) (i : Nat) : nth [] (makeG g).ks i = nth [] g.ks i := by
  show nth [] (if g.ks.length < (mkList g.sl).length then g.ks ++ [[]] else g.ks) i = _
  split
  · by_cases hi : i < g.ks.length
    · rw [nth_append_left hi]
    · rw [nth_append_right (by omega), nth_ge (l := g.ks) (by omega)]
      unfold nth
      cases i - g.ks.length with
      | zero => rfl
      | succ k => rfl
  · rfl
theorem makeG_ok {g : Gr} (hg : grOk g = true) (he : mkErr g.sl = 0) : grOk (makeG g) = true := by
  obtain ⟨h1, h2, h3, h4⟩ := gr_parts hg
  have hml := mkList_len g.sl
  have hlen : (makeG g).ks.length = (makeG g).sl.length := by
    show (if g.ks.length < (mkList g.sl).length then g.ks ++ [[]] else g.ks).length = (mkList g.sl).length
    split at hml
    · rw [if_neg (by omega)]; omega
    · rw [if_pos (by omega), List.length_append]; simp; omega
  have hkl : g.ks.length ≤ (makeG g).ks.length := by
    rw [hlen, h2]
    exact mkList_length g.sl
  have hrows : rowsOk (makeG g) = true := rows_mk fun i hi => by
    rw [makeG_row]
    by_cases hin : i < g.ks.length
    · have hr := rows_at h3 hin
      refine ⟨hr.1, ?_, fun x hx => held_make (hr.2.2 x hx)⟩
      rcases hr.2.1 with e | e
      · exact .inl e
      · right
        show (nth dSl (mkList g.sl) i).live = true
        unfold mkList
        split
        · rename_i hf
          rw [nth_set' hf]
          split
          · rfl
          · exact e
        · rw [nth_append_left (by omega)]
          exact e
    · rw [nth_ge (by omega)]
      exact ⟨by simp, .inl rfl, fun x hx => by simp at hx⟩
  refine gr_mk (mkList_ok he) hlen hrows ((loose_iff hlen hrows).2 ?_)
  intro i hi c hc hr
  have hk : ∀ i c, c ∈ kof (makeG g).ks i → c ∈ kof g.ks i := fun i c h => by
    obtain ⟨x, hx, rfl⟩ := kof_mem.1 h
    rw [makeG_row] at hx
    exact kof_mem.2 ⟨x, hx, rfl⟩
  by_cases hin : i < g.ks.length
  · exact gr_acyc hg i hin c (hk i c hc) (reach_sub hk hr)
  · obtain ⟨x, hx, _⟩ := kof_mem.1 (hk i c hc)
    rw [nth_ge (by omega)] at hx
    simp at hx

/-! What follows -/
theorem back_is {g : Gr} {p c : Int × Int} {k : Int} (h : linkErr g p c k = 0) : unlinkG (linkG g p c k) p k = g ∧ unlinkErr (linkG g p c k) p k = 0 := by
  have hok := linkG_ok h
  obtain ⟨hg, hp, hc, k0, k1, h16, hr⟩ := link_parts h
  obtain ⟨h1, h2, h3, h4⟩ := gr_parts hg
  have hpl := held_lt hp
  have hrow : rowAt (linkG g p c k) p = put (rowAt g p) k.toNat c := by
    show nth [] (g.ks.set p.1.toNat _) p.1.toNat = _
    rw [nth_set' (by omega), if_pos rfl]
  constructor
  · unfold unlinkG
    rw [hrow, cut_put (by omega)]
    show Gr.mk g.sl ((g.ks.set p.1.toNat _).set p.1.toNat (rowAt g p)) = g
    rw [List.set_set]
    have : g.ks.set p.1.toNat (rowAt g p) = g.ks := by
      refine ext_nth (d := []) (by rw [List.length_set]) fun i _ => ?_
      rw [nth_set' (by omega)]
      split
      · rename_i e; rw [e]; rfl
      · rfl
    rw [this]
  · unfold unlinkErr askErr
    have hp' : heldIn (linkG g p c k).sl p.1 p.2 = true := hp
    rw [if_pos hok, if_pos (show _ ∧ _ from ⟨hp', hp'⟩)]
    rw [if_pos rfl, hrow, put_len (by omega), if_pos ⟨k0, by omega⟩]
theorem none_up {g : Gr} (hg : grOk g = true) {i : Nat} (hi : i < g.ks.length) {x : Int × Int} (hx : x ∈ nth [] g.ks i) (gn : Int) : reachB g x ((i : Int), gn) = false := by
  obtain ⟨_, h2, h3, _⟩ := gr_parts hg
  cases h : reachB g x ((i : Int), gn) with
  | false => rfl
  | true =>
    rw [reachB_iff hg ((rows_at h3 hi).2.2 x hx)] at h
    rw [Int.toNat_natCast] at h
    exact absurd h (gr_acyc hg i hi _ (kof_mem.2 ⟨x, hx, rfl⟩))
theorem held_same {l : List Sl} {a b : Int × Int} (ha : heldIn l a.1 a.2 = true) (hb : heldIn l b.1 b.2 = true) : a.1.toNat = b.1.toNat ↔ a = b := by
  obtain ⟨⟨a0, a1⟩, _, ag⟩ := held_spec.1 ha
  obtain ⟨⟨b0, b1⟩, _, bg⟩ := held_spec.1 hb
  constructor
  · intro e
    apply Prod.ext
    · omega
    · rw [← ag, ← bg, e]
  · intro e; rw [e]
theorem reach_over {g : Gr} (hg : grOk g = true) {h i : Int × Int} (hh : heldIn g.sl h.1 h.2 = true) (hi : heldIn g.sl i.1 i.2 = true) : reachB g h i = (decide (h = i) || (rowAt g h).any fun x => reachB g x i) := by
  obtain ⟨_, h2, h3, _⟩ := gr_parts hg
  have hl := held_lt hh
  have hrow := rows_at h3 (i := h.1.toNat) (by omega)
  have key : reachB g h i = true ↔ (decide (h = i) || (rowAt g h).any fun x => reachB g x i) = true := by
    rw [reachB_iff hg hh, reach_cases, Bool.or_eq_true, decide_eq_true_eq, List.any_eq_true, held_same hh hi]
    constructor
    · rintro (e | ⟨c, hc, hr⟩)
      · exact .inl e
      · obtain ⟨x, hx, rfl⟩ := kof_mem.1 hc
        exact .inr ⟨x, hx, (reachB_iff hg (hrow.2.2 x hx)).2 hr⟩
    · rintro (e | ⟨x, hx, hr⟩)
      · exact .inl e
      · exact .inr ⟨_, kof_mem.2 ⟨x, hx, rfl⟩, (reachB_iff hg (hrow.2.2 x hx)).1 hr⟩
  cases ha : reachB g h i <;> cases hb : (decide (h = i) || (rowAt g h).any fun x => reachB g x i)
  · rfl
  · rw [ha, hb] at key; simp at key
  · rw [ha, hb] at key; simp at key
  · rfl
def countH (l : List (Int × Int)) (h : Int × Int) : Nat := (l.filter fun x => decide (x = h)).length
theorem count_parents {g : Gr} {h i : Int × Int} (hh : heldIn g.sl h.1 h.2 = true) : ∀ k, countH (parentsTo g i k) h = if h.1.toNat < k then countH (rowAt g h) i else 0
  | 0 => by simp [parentsTo, countH]
  | k + 1 => by
    have ih := count_parents (g := g) (i := i) hh k
    obtain ⟨⟨h0, h1⟩, _, hgen⟩ := held_spec.1 hh
    unfold countH at *
    rw [parentsTo, List.filter_append, List.length_append, ih]
    by_cases e : h.1.toNat = k
    · subst e
      rw [if_neg (by omega), if_pos (by omega), Nat.zero_add, List.filter_eq_self.2 ?_, List.length_map]
      · rfl
      · intro a ha
        obtain ⟨x, _, rfl⟩ := List.mem_map.1 ha
        rw [decide_eq_true_eq]
        apply Prod.ext
        · show ((h.1.toNat : Nat) : Int) = h.1
          omega
        · exact hgen
    · have hz : (List.filter (fun x => decide (x = h)) (List.map (fun _ => ((k : Int), (nth dSl g.sl k).gen)) (List.filter (fun x => decide (x = i)) (nth [] g.ks k)))) = [] := by
        rw [List.filter_eq_nil_iff]
        intro a ha
        obtain ⟨x, _, rfl⟩ := List.mem_map.1 ha
        rw [decide_eq_true_eq]
        intro e2
        apply e
        rw [← e2]
        exact Int.toNat_natCast k
      rw [hz]
      by_cases hk : h.1.toNat < k
      · rw [if_pos hk, if_pos (by omega)]; rfl
      · rw [if_neg hk, if_neg (by omega)]; rfl
end Go.Proofs.Ytmmflpjfgapaaaa
