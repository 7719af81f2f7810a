/- What the document's own Turned gives (dioramaref03). -/
import Derived.Test.YtondjoilcpcneaaBoxC
namespace Go.Proofs.Ytondjoilcpcneaa
open Go.RowKit Go.ChangeShapes Go.WideShapes Go.ChangeAt
set_option linter.unusedSimpArgs false
set_option linter.unusedVariables false
attribute [local go_sem] plus_size plus_drew dn_set dn_alloc dn_plus plus_dn cell_plus frozen_plus set_plus cell_alloc frozen_alloc set_alloc

/-- the first k of them turned -/
def upto (m : M9) (b : B6) (k j : Nat) : V3 := if j < k then turned m (cornerN b j) else cornerN b j
theorem upto_at (m : M9) (b : B6) (k : Nat) : upto m b k k = cornerN b k := if_neg (Nat.lt_irrefl k)

theorem lies_store {w T : World} {g n k : Nat} {q : Nat → V3} {v : V3} (hl : Lies w g 0 n q) (hf : ∀ j, w.frozen? ⟨g, j, none⟩ = false) (hT : ∃ y, w = plus T y) (hg : T.heap.size ≤ g) (hk : k < n) (x : List More) :
    (∃ y, plus (((w.setCell ⟨g, k * 3, none⟩ (.int .i64 v.x)).setCell ⟨g, k * 3 + 1, none⟩ (.int .i64 v.y)).setCell ⟨g, k * 3 + 2, none⟩ (.int .i64 v.z)) x = plus T y) ∧
    Lies (plus (((w.setCell ⟨g, k * 3, none⟩ (.int .i64 v.x)).setCell ⟨g, k * 3 + 1, none⟩ (.int .i64 v.y)).setCell ⟨g, k * 3 + 2, none⟩ (.int .i64 v.z)) x) g 0 n (fun j => if j = k then v else q j) ∧
    ∀ j, (plus (((w.setCell ⟨g, k * 3, none⟩ (.int .i64 v.x)).setCell ⟨g, k * 3 + 1, none⟩ (.int .i64 v.y)).setCell ⟨g, k * 3 + 2, none⟩ (.int .i64 v.z)) x).frozen? ⟨g, j, none⟩ = false := by
  refine ⟨?_, Lies.plus ⟨?_, fun j hj => ?_⟩ x, fun j => ?_⟩
  · obtain ⟨y, rfl⟩ := hT
    exact ex_plus (below_plus ((((plus_below T y).setCell hg _).setCell hg _).setCell hg _))
  · simpa using hl.1
  · obtain ⟨a1, a2, a3⟩ := hl.2 j hj
    obtain ⟨b1, b2, b3⟩ := hl.2 k hk
    rw [Nat.zero_add] at a1 a2 a3 b1 b2 b3
    have ne : ∀ {i i' : Nat}, i ≠ i' → (⟨g, i, none⟩ : Addr) ≠ ⟨g, i', none⟩ := fun h e => h (Addr.mk.inj e).2.1
    rw [Nat.zero_add]
    by_cases e : j = k
    · subst e
      simp only [if_true]
      refine ⟨?_, ?_, ?_⟩
      · rw [World.cell?_setCell_other _ _ _ _ (ne (by omega)), World.cell?_setCell_other _ _ _ _ (ne (by omega)), World.cell?_setCell_same _ _ _ b1]
      · rw [World.cell?_setCell_other _ _ _ _ (ne (by omega)), World.cell?_setCell_same _ _ _ (u := .int .i64 (q j).y) (by rw [World.cell?_setCell_other _ _ _ _ (ne (by omega))]; exact b2)]
      · rw [World.cell?_setCell_same _ _ _ (u := .int .i64 (q j).z) (by rw [World.cell?_setCell_other _ _ _ _ (ne (by omega)), World.cell?_setCell_other _ _ _ _ (ne (by omega))]; exact b3)]
    · rw [if_neg e]
      rw [World.cell?_setCell_other _ _ _ _ (ne (by omega)), World.cell?_setCell_other _ _ _ _ (ne (by omega)), World.cell?_setCell_other _ _ _ _ (ne (by omega)),
        World.cell?_setCell_other _ _ _ _ (ne (by omega)), World.cell?_setCell_other _ _ _ _ (ne (by omega)), World.cell?_setCell_other _ _ _ _ (ne (by omega)),
        World.cell?_setCell_other _ _ _ _ (ne (by omega)), World.cell?_setCell_other _ _ _ _ (ne (by omega)), World.cell?_setCell_other _ _ _ _ (ne (by omega))]
      exact ⟨a1, a2, a3⟩
  · have hs : g < (((w.setCell ⟨g, k * 3, none⟩ (.int .i64 v.x)).setCell ⟨g, k * 3 + 1, none⟩ (.int .i64 v.y)).setCell ⟨g, k * 3 + 2, none⟩ (.int .i64 v.z)).heap.size := by simpa using hl.1
    rw [plus_frozen _ _ _ _ hs]
    simpa using hf j
theorem corner_view {b : B6} (h : mayBx b = true) (k : Nat) : all3 ⟨(cornerN b k).x, (cornerN b k).y, (cornerN b k).z⟩ 32768 = true := by
  obtain ⟨h1, h2, h3⟩ := mayBx_of h
  have c1 := all3_of h1
  have c2 := all3_of h2
  refine all3_mk ?_
  simp only [cornerN]
  refine ⟨⟨?_, ?_⟩, ⟨?_, ?_⟩, ?_, ?_⟩ <;> split <;> omega

set_option maxHeartbeats 4000000 in
theorem rbturned_walk (a b c d o f g u i p q r s t v : Int) (w : World) (hm : all9 ⟨⟨a, b, c⟩, ⟨d, o, f⟩, ⟨g, u, i⟩⟩ 1024 = true) (hb : mayBx ⟨⟨p, q, r⟩, ⟨s, t, v⟩⟩ = true) (n : Int) (hn : n = if mayBx (turnedBx ⟨⟨a, b, c⟩, ⟨d, o, f⟩, ⟨g, u, i⟩⟩ ⟨⟨p, q, r⟩, ⟨s, t, v⟩⟩) = true then 0 else 20) :
    Calls Try.prog 23 #[.agg #[.int .i64 a, .int .i64 b, .int .i64 c, .int .i64 d, .int .i64 o, .int .i64 f, .int .i64 g, .int .i64 u, .int .i64 i], .agg #[.int .i64 p, .int .i64 q, .int .i64 r, .int .i64 s, .int .i64 t, .int .i64 v]] w fun e w' => e = .returned (.tuple #[if n = 0 then .agg #[.int .i64 (turnedBx ⟨⟨a, b, c⟩, ⟨d, o, f⟩, ⟨g, u, i⟩⟩ ⟨⟨p, q, r⟩, ⟨s, t, v⟩⟩).lo.x, .int .i64 (turnedBx ⟨⟨a, b, c⟩, ⟨d, o, f⟩, ⟨g, u, i⟩⟩ ⟨⟨p, q, r⟩, ⟨s, t, v⟩⟩).lo.y, .int .i64 (turnedBx ⟨⟨a, b, c⟩, ⟨d, o, f⟩, ⟨g, u, i⟩⟩ ⟨⟨p, q, r⟩, ⟨s, t, v⟩⟩).lo.z, .int .i64 (turnedBx ⟨⟨a, b, c⟩, ⟨d, o, f⟩, ⟨g, u, i⟩⟩ ⟨⟨p, q, r⟩, ⟨s, t, v⟩⟩).hi.x, .int .i64 (turnedBx ⟨⟨a, b, c⟩, ⟨d, o, f⟩, ⟨g, u, i⟩⟩ ⟨⟨p, q, r⟩, ⟨s, t, v⟩⟩).hi.y, .int .i64 (turnedBx ⟨⟨a, b, c⟩, ⟨d, o, f⟩, ⟨g, u, i⟩⟩ ⟨⟨p, q, r⟩, ⟨s, t, v⟩⟩).hi.z] else .agg #[.int .i64 0, .int .i64 0, .int .i64 0, .int .i64 0, .int .i64 0, .int .i64 0], .int .i64 n]) ∧ Below w.heap.size w w' := by
  go_enter Try.func23, Try.ntmps23
  go_wp2_with (first | (go_at_call 36; refine (plus_post (rrows_calls _ _ _ _ _ _ _ _ _ _ (by omega) (by omega) _)).mono ?_; rintro e w' ⟨rfl, nx, rfl⟩) | (go_at_call 19; refine (plus_post (rbmay_calls _ _ _ _ _ _ _)).mono ?_; rintro e w' ⟨rfl, nx, rfl⟩) | (go_at_call 37; refine (rcorners_calls _ _ _ _ _ _ _).mono ?_; rintro e w' ⟨G, cap, y, rfl, rfl, hg, hown⟩))
  have hg' : (((w.alloc (.cells #[.int .i64 a, .int .i64 b, .int .i64 c, .int .i64 d, .int .i64 o, .int .i64 f, .int .i64 g, .int .i64 u, .int .i64 i] 33)).alloc (.cells #[.int .i64 p, .int .i64 q, .int .i64 r, .int .i64 s, .int .i64 t, .int .i64 v] 25)).alloc (.cells #[.int .i64 0, .int .i64 0, .int .i64 0, .int .i64 0, .int .i64 0, .int .i64 0] 25)).heap.size ≤ G := by simp [go_sem] at hg ⊢; omega
  go_loopw [7] (fun iv wr => ∃ k : Nat, k ≤ 8 ∧ iv = .int .i64 k ∧ (∃ y, wr = plus (((w.alloc (.cells #[.int .i64 a, .int .i64 b, .int .i64 c, .int .i64 d, .int .i64 o, .int .i64 f, .int .i64 g, .int .i64 u, .int .i64 i] 33)).alloc (.cells #[.int .i64 p, .int .i64 q, .int .i64 r, .int .i64 s, .int .i64 t, .int .i64 v] 25)).alloc (.cells #[.int .i64 0, .int .i64 0, .int .i64 0, .int .i64 0, .int .i64 0, .int .i64 0] 25)) y) ∧ Lies wr G 0 8 (upto ⟨⟨a, b, c⟩, ⟨d, o, f⟩, ⟨g, u, i⟩⟩ ⟨⟨p, q, r⟩, ⟨s, t, v⟩⟩ k) ∧ ∀ j, wr.frozen? ⟨G, j, none⟩ = false) (fun iv _ => 8 - (intOf iv).toNat)
  case atStart => exact ⟨0, by decide, rfl, (by with_reducible repeat (first | exact ex_refl _ | exact ex_more | apply ex_alloc | apply ex_plus | apply ex_drew | apply ex_drewN)), (hown.lies (by decide)).congr (fun k _ => rfl), hown.frozen⟩
  case round =>
    obtain ⟨k, hk, rfl, hT, hl, hf⟩ := hrel
    clear hown
    by_cases hkl : k < 8
    · have ik : (k : Int) < 8 := by omega
      obtain ⟨c1, c2, c3⟩ := hl.2 k hkl
      rw [upto_at, Nat.zero_add] at c1 c2 c3
      have hgs := hl.1
      have hv := corner_view hb k
      have hws : w.heap.size < wr.heap.size := by obtain ⟨x, rfl⟩ := hT; simp [go_sem]; omega
      have mc0 : wr.cell? ⟨w.heap.size, 0, none⟩ = some (.int .i64 a) := by obtain ⟨x, rfl⟩ := hT; simp [go_sem, ↓IntWalk.iteOmega]
      have mc1 : wr.cell? ⟨w.heap.size, 1, none⟩ = some (.int .i64 b) := by obtain ⟨x, rfl⟩ := hT; simp [go_sem, ↓IntWalk.iteOmega]
      have mc2 : wr.cell? ⟨w.heap.size, 2, none⟩ = some (.int .i64 c) := by obtain ⟨x, rfl⟩ := hT; simp [go_sem, ↓IntWalk.iteOmega]
      have mc3 : wr.cell? ⟨w.heap.size, 3, none⟩ = some (.int .i64 d) := by obtain ⟨x, rfl⟩ := hT; simp [go_sem, ↓IntWalk.iteOmega]
      have mc4 : wr.cell? ⟨w.heap.size, 4, none⟩ = some (.int .i64 o) := by obtain ⟨x, rfl⟩ := hT; simp [go_sem, ↓IntWalk.iteOmega]
      have mc5 : wr.cell? ⟨w.heap.size, 5, none⟩ = some (.int .i64 f) := by obtain ⟨x, rfl⟩ := hT; simp [go_sem, ↓IntWalk.iteOmega]
      have mc6 : wr.cell? ⟨w.heap.size, 6, none⟩ = some (.int .i64 g) := by obtain ⟨x, rfl⟩ := hT; simp [go_sem, ↓IntWalk.iteOmega]
      have mc7 : wr.cell? ⟨w.heap.size, 7, none⟩ = some (.int .i64 u) := by obtain ⟨x, rfl⟩ := hT; simp [go_sem, ↓IntWalk.iteOmega]
      have mc8 : wr.cell? ⟨w.heap.size, 8, none⟩ = some (.int .i64 i) := by obtain ⟨x, rfl⟩ := hT; simp [go_sem, ↓IntWalk.iteOmega]
      have f0 := hf (k * 3)
      have f1 := hf (k * 3 + 1)
      have f2 := hf (k * 3 + 2)
      go_wp2
      refine region_tail 9 (by kernel_rfl) (by kernel_rfl) ?_
      simp only [List.take_succ_cons, List.take_zero, List.drop_succ_cons, List.drop_zero]
      (repeat (go_big_quiet_step ((go_at_call 38; exact plus_of (rturned_calls _ _ _ _ _ _ _ _ _ _ _ _ (by assumption) (by assumption) _)))))
      refine wpQuiet_nil ?_
      rintro _ ⟨x2, rfl⟩
      go_wp2
      go_roundw
      case rel =>
        obtain ⟨r1, r2, r3⟩ := lies_store (v := turned ⟨⟨a, b, c⟩, ⟨d, o, f⟩, ⟨g, u, i⟩⟩ (cornerN ⟨⟨p, q, r⟩, ⟨s, t, v⟩⟩ k)) hl hf hT hg' hkl x2
        refine ⟨k + 1, by omega, by go_num, r1, r2.congr fun j _ => ?_, r3⟩
        by_cases e : j = k
        · subst e; simp [upto]
        · simp only [upto, if_neg e]
          by_cases h : j < k
          · rw [if_pos h, if_pos (by omega)]
          · rw [if_neg h, if_neg (by omega)]
      case measure => simp [intOf]; omega
    · obtain rfl : k = 8 := by omega
      replace hl : Lies wr G 0 8 (fun j => turned ⟨⟨a, b, c⟩, ⟨d, o, f⟩, ⟨g, u, i⟩⟩ (cornerN ⟨⟨p, q, r⟩, ⟨s, t, v⟩⟩ j)) := hl.congr fun j hj => if_pos hj
      obtain ⟨y, rfl⟩ := hT
      clear hf
      by_cases ht : mayBx (turnedBx ⟨⟨a, b, c⟩, ⟨d, o, f⟩, ⟨g, u, i⟩⟩ ⟨⟨p, q, r⟩, ⟨s, t, v⟩⟩) = true
      · rw [if_pos ht] at hn
        subst hn
        rw [← turned_lst] at ht
        have ht' : mayBx ⟨⟨(lst (fun j => turned ⟨⟨a, b, c⟩, ⟨d, o, f⟩, ⟨g, u, i⟩⟩ (cornerN ⟨⟨p, q, r⟩, ⟨s, t, v⟩⟩ j)) 8).lo.x, (lst (fun j => turned ⟨⟨a, b, c⟩, ⟨d, o, f⟩, ⟨g, u, i⟩⟩ (cornerN ⟨⟨p, q, r⟩, ⟨s, t, v⟩⟩ j)) 8).lo.y, (lst (fun j => turned ⟨⟨a, b, c⟩, ⟨d, o, f⟩, ⟨g, u, i⟩⟩ (cornerN ⟨⟨p, q, r⟩, ⟨s, t, v⟩⟩ j)) 8).lo.z⟩, ⟨(lst (fun j => turned ⟨⟨a, b, c⟩, ⟨d, o, f⟩, ⟨g, u, i⟩⟩ (cornerN ⟨⟨p, q, r⟩, ⟨s, t, v⟩⟩ j)) 8).hi.x, (lst (fun j => turned ⟨⟨a, b, c⟩, ⟨d, o, f⟩, ⟨g, u, i⟩⟩ (cornerN ⟨⟨p, q, r⟩, ⟨s, t, v⟩⟩ j)) 8).hi.y, (lst (fun j => turned ⟨⟨a, b, c⟩, ⟨d, o, f⟩, ⟨g, u, i⟩⟩ (cornerN ⟨⟨p, q, r⟩, ⟨s, t, v⟩⟩ j)) 8).hi.z⟩⟩ = true := ht
        go_wp2_with (first | (go_at_call 19; refine (plus_post (rbmay_calls _ _ _ _ _ _ _)).mono ?_; rintro e w' ⟨rfl, nx, rfl⟩) | (go_at_call 34; refine (plus_post (rleast_calls _ 0 8 _ (fun j => turned ⟨⟨a, b, c⟩, ⟨d, o, f⟩, ⟨g, u, i⟩⟩ (cornerN ⟨⟨p, q, r⟩, ⟨s, t, v⟩⟩ j)) _ (by decide) (by decide) (hl.ex (by with_reducible repeat (first | exact ex_refl _ | exact ex_more | apply ex_alloc | apply ex_plus | apply ex_drew | apply ex_drewN))))).mono ?_; rintro e w' ⟨rfl, nx, rfl⟩))
        exact bodyPost_ret (v := .tuple #[.agg #[.int .i64 (lst (fun j => turned ⟨⟨a, b, c⟩, ⟨d, o, f⟩, ⟨g, u, i⟩⟩ (cornerN ⟨⟨p, q, r⟩, ⟨s, t, v⟩⟩ j)) 8).lo.x, .int .i64 (lst (fun j => turned ⟨⟨a, b, c⟩, ⟨d, o, f⟩, ⟨g, u, i⟩⟩ (cornerN ⟨⟨p, q, r⟩, ⟨s, t, v⟩⟩ j)) 8).lo.y, .int .i64 (lst (fun j => turned ⟨⟨a, b, c⟩, ⟨d, o, f⟩, ⟨g, u, i⟩⟩ (cornerN ⟨⟨p, q, r⟩, ⟨s, t, v⟩⟩ j)) 8).lo.z, .int .i64 (lst (fun j => turned ⟨⟨a, b, c⟩, ⟨d, o, f⟩, ⟨g, u, i⟩⟩ (cornerN ⟨⟨p, q, r⟩, ⟨s, t, v⟩⟩ j)) 8).hi.x, .int .i64 (lst (fun j => turned ⟨⟨a, b, c⟩, ⟨d, o, f⟩, ⟨g, u, i⟩⟩ (cornerN ⟨⟨p, q, r⟩, ⟨s, t, v⟩⟩ j)) 8).hi.y, .int .i64 (lst (fun j => turned ⟨⟨a, b, c⟩, ⟨d, o, f⟩, ⟨g, u, i⟩⟩ (cornerN ⟨⟨p, q, r⟩, ⟨s, t, v⟩⟩ j)) 8).hi.z], .int .i64 0]) (by simp [results, Try.results23, go_sem, ↓IntWalk.iteOmega]) rfl ⟨by simp [turned_lst], by with_reducible repeat (first | exact Below.refl _ _ | apply ba | apply bp | apply bd | apply bn)⟩
      · rw [if_neg ht] at hn
        subst hn
        rw [← turned_lst] at ht
        have ht' : mayBx ⟨⟨(lst (fun j => turned ⟨⟨a, b, c⟩, ⟨d, o, f⟩, ⟨g, u, i⟩⟩ (cornerN ⟨⟨p, q, r⟩, ⟨s, t, v⟩⟩ j)) 8).lo.x, (lst (fun j => turned ⟨⟨a, b, c⟩, ⟨d, o, f⟩, ⟨g, u, i⟩⟩ (cornerN ⟨⟨p, q, r⟩, ⟨s, t, v⟩⟩ j)) 8).lo.y, (lst (fun j => turned ⟨⟨a, b, c⟩, ⟨d, o, f⟩, ⟨g, u, i⟩⟩ (cornerN ⟨⟨p, q, r⟩, ⟨s, t, v⟩⟩ j)) 8).lo.z⟩, ⟨(lst (fun j => turned ⟨⟨a, b, c⟩, ⟨d, o, f⟩, ⟨g, u, i⟩⟩ (cornerN ⟨⟨p, q, r⟩, ⟨s, t, v⟩⟩ j)) 8).hi.x, (lst (fun j => turned ⟨⟨a, b, c⟩, ⟨d, o, f⟩, ⟨g, u, i⟩⟩ (cornerN ⟨⟨p, q, r⟩, ⟨s, t, v⟩⟩ j)) 8).hi.y, (lst (fun j => turned ⟨⟨a, b, c⟩, ⟨d, o, f⟩, ⟨g, u, i⟩⟩ (cornerN ⟨⟨p, q, r⟩, ⟨s, t, v⟩⟩ j)) 8).hi.z⟩⟩ = false := by simpa using ht
        go_wp2_with (first | (go_at_call 19; refine (plus_post (rbmay_calls _ _ _ _ _ _ _)).mono ?_; rintro e w' ⟨rfl, nx, rfl⟩) | (go_at_call 34; refine (plus_post (rleast_calls _ 0 8 _ (fun j => turned ⟨⟨a, b, c⟩, ⟨d, o, f⟩, ⟨g, u, i⟩⟩ (cornerN ⟨⟨p, q, r⟩, ⟨s, t, v⟩⟩ j)) _ (by decide) (by decide) (hl.ex (by with_reducible repeat (first | exact ex_refl _ | exact ex_more | apply ex_alloc | apply ex_plus | apply ex_drew | apply ex_drewN))))).mono ?_; rintro e w' ⟨rfl, nx, rfl⟩))
        exact bodyPost_ret (v := .tuple #[.agg #[.int .i64 0, .int .i64 0, .int .i64 0, .int .i64 0, .int .i64 0, .int .i64 0], .int .i64 20]) (by simp [results, Try.results23, go_sem, ↓IntWalk.iteOmega]) rfl ⟨rfl, by with_reducible repeat (first | exact Below.refl _ _ | apply ba | apply bp | apply bd | apply bn)⟩

end Go.Proofs.Ytondjoilcpcneaa
