/- A pack of texts: EditKeeps. -/
import Derived.Deep.DeepCutAuto
import Derived.Test.YtcekcihijdipoaaGreatPK27
import Derived.Test.YtcekcihijdipoaaGreatPK1
namespace Go.Proofs.YtcekcihijdipoaaGreat

section


open Go.RowKit Go.ChangeShapes Go.WideShapes Go.ChangeAt

set_option linter.unusedSimpArgs false

set_option linter.unusedVariables false

attribute [local go_sem] plus_size plus_drew dn_set dn_alloc dn_plus plus_dn cell_plus frozen_plus set_plus cell_alloc frozen_alloc set_alloc

def kpS (i : Nat) : List Nat := match i with | 0 => [47] | 1 => [48] | 2 => [49] | 3 => [50] | 4 => [51] | 5 => [52] | 6 => [46] | 7 => [53] | 8 => [54] | 9 => [55] | 10 => [8] | 11 => [9] | 12 => [8] | 13 => [9] | _ => []

def kpΦ (T : World) (B : Nat) (cs : List Value) (k g o n cap : Nat) (e : EH) (A Bq C er : Int) (S : Sc) (i : Nat) (t : Nat → Value) (D : Nat → Bool) (w' : World) : Prop := match i with
  | 0 => t 47 = .agg cs.toArray
  | 1 => t 48 = .slice (some ⟨g, o, none⟩) n cap
  | 2 => t 49 = .int .i64 k
  | 3 => t 50 = .pointer (some ⟨g, o + k * 45, none⟩)
  | 4 => t 51 = .agg (fE e).toArray
  | 5 => ∃ h' x', t 52 = .tuple #[.agg (scCells h').toArray, .agg #[.int .i64 A, .int .i64 Bq, .int .i64 C], .int .i64 er] ∧ ScOwn T w' h' x' S
  | 6 => ∃ h' x', t 46 = .tuple #[.agg (scCells h').toArray, .agg #[.int .i64 A, .int .i64 Bq, .int .i64 C], .int .i64 er] ∧ ScOwn T w' h' x' S
  | 7 => ∃ h' x', t 53 = .agg (scCells h').toArray ∧ ScOwn T w' h' x' S
  | 8 => t 54 = .agg #[.int .i64 A, .int .i64 Bq, .int .i64 C]
  | 9 => t 55 = .int .i64 er
  | 10 => ∃ p, t 8 = .pointer (some ⟨p, 0, none⟩) ∧ B ≤ p ∧ (D 12 = false → w'.heap[p]? = some (.cells (scCells sh0).toArray 34))
  | 11 => ∃ p, t 9 = .pointer (some ⟨p, 0, none⟩) ∧ B ≤ p ∧ (D 13 = false → w'.heap[p]? = some (.cells #[.int .i64 0, .int .i64 0, .int .i64 0] 36))
  | 12 => D 12 = true ∧ ∃ p h' x', t 8 = .pointer (some ⟨p, 0, none⟩) ∧ B ≤ p ∧ w'.heap[p]? = some (.cells (scCells h').toArray 34) ∧ ScOwn T w' h' x' S
  | 13 => D 13 = true ∧ ∃ p, t 9 = .pointer (some ⟨p, 0, none⟩) ∧ B ≤ p ∧ w'.heap[p]? = some (.cells #[.int .i64 A, .int .i64 Bq, .int .i64 C] 36)
  | _ => True

theorem kpΦ_mono (T : World) (B : Nat) (cs : List Value) (k g o n cap : Nat) (e : EH) (A Bq C er : Int) (S : Sc) : ∀ i t t' D w D' w', kpΦ T B cs k g o n cap e A Bq C er S i t D w → (∀ s ∈ kpS i, t' s = t s) → Fil2 12 13 34 36 B D w D' w' → kpΦ T B cs k g o n cap e A Bq C er S i t' D' w' := by
  intro i t t' D w D' w' h_ hs' ht
  match i with
  | 0 => exact (hs' 47 (by decide)).trans h_
  | 1 => exact (hs' 48 (by decide)).trans h_
  | 2 => exact (hs' 49 (by decide)).trans h_
  | 3 => exact (hs' 50 (by decide)).trans h_
  | 4 => exact (hs' 51 (by decide)).trans h_
  | 5 => obtain ⟨h', x', e1, e2⟩ := h_; exact ⟨h', x', (hs' 52 (by decide)).trans e1, e2.fil ht (by decide) (by decide)⟩
  | 6 => obtain ⟨h', x', e1, e2⟩ := h_; exact ⟨h', x', (hs' 46 (by decide)).trans e1, e2.fil ht (by decide) (by decide)⟩
  | 7 => obtain ⟨h', x', e1, e2⟩ := h_; exact ⟨h', x', (hs' 53 (by decide)).trans e1, e2.fil ht (by decide) (by decide)⟩
  | 8 => exact (hs' 54 (by decide)).trans h_
  | 9 => exact (hs' 55 (by decide)).trans h_
  | 10 => obtain ⟨p, e1, e2, e3⟩ := h_; exact ⟨p, (hs' 8 (by decide)).trans e1, e2, fun q => fil_keep (by decide) ht (.inl ⟨rfl, rfl⟩) (e3 (fil_not ht q)) (.inr q)⟩
  | 11 => obtain ⟨p, e1, e2, e3⟩ := h_; exact ⟨p, (hs' 9 (by decide)).trans e1, e2, fun q => fil_keep (by decide) ht (.inr ⟨rfl, rfl⟩) (e3 (fil_not ht q)) (.inr q)⟩
  | 12 => obtain ⟨q, p, h', x', e1, e2, e3, e4⟩ := h_; exact ⟨ht.m 12 q, p, h', x', (hs' 8 (by decide)).trans e1, e2, fil_keep (by decide) ht (.inl ⟨rfl, rfl⟩) e3 (.inl q), e4.fil ht (by decide) (by decide)⟩
  | 13 => obtain ⟨q, p, e1, e2, e3⟩ := h_; exact ⟨ht.m 13 q, p, (hs' 9 (by decide)).trans e1, e2, fil_keep (by decide) ht (.inr ⟨rfl, rfl⟩) e3 (.inl q)⟩
  | i + 14 => trivial

/-- the scene under way through the edits: in the box b, as it was handed in or in memory newer than w -/
structure KpI (w : World) (b : Nat) (h0 : SH) (x0 : SX) (s0 : Sc) (wr : World) (h : SH) (x : SX) (s : Sc) : Prop where
  ex : ∃ y, wr = plus w y
  bx : wr.heap[b]? = some (.cells (scCells h).toArray 34)
  may : maySc s = true
  own : (h = h0 ∧ x = x0 ∧ s = s0) ∨ ScOwn w wr h x s

theorem KpI.on {w wr w' : World} {b : Nat} {h0 : SH} {x0 : SX} {s0 : Sc} {h : SH} {x : SX} {s : Sc} (I : KpI w b h0 x0 s0 wr h x s) (hw : ∃ y, w' = plus wr y) : KpI w b h0 x0 s0 w' h x s := ⟨ex_trans I.ex hw, blk_ex hw I.bx, I.may, I.own.imp id fun o => o.ex hw⟩

theorem KpI.at {w wr : World} {b : Nat} {h0 : SH} {x0 : SX} {s0 : Sc} {h : SH} {x : SX} {s : Sc} (I : KpI w b h0 x0 s0 wr h x s) (A0 : ScAt w h0 x0 s0) : ScAt wr h x s := by
  rcases I.own with ⟨rfl, rfl, rfl⟩ | o
  · exact A0.ex I.ex
  · exact o.at (few_may I.may)

theorem rgreatE_is {e : EH} {ps : List PH} {n : Nd} {m : Ms} {t : Tp} {w : World} (hE : EditAt w e ps n m t) {v : Bool} (hv : greatEd e ps = v) : Calls Tryz.prog 22 #[.agg (fE e).toArray] w fun e' w' => e' = .returned (.bool v) ∧ ∃ y, w' = plus w y := rgreatE_calls e ps n m t w hE hv

set_option maxRecDepth 100000 in
set_option maxHeartbeats 16000000 in
theorem editKeeps_walk (zh0 : SH) (zx0 : SX) (zs0 : Sc) (ao1 : Option Addr) (n1 cap1 : Nat) (aes : List EH) (w : World) (hG0 : GrIn w zh0.ga zh0.gn zh0.ka zh0.kn zx0.gr zs0.g) (hR0 : RestAt w zh0 zx0 zs0) (hn1 : n1 ≤ 9223372036854775807) (hl1 : Lay fE w ao1 n1 aes) (hk1 : ∀ k, k < n1 → ∃ ps n m t, EditAt w (nth eh0 aes k) ps n m t) :
    Calls Tryz.prog 6 #[vS zh0, .slice ao1 n1 cap1] w fun e w' => e = .returned (.bool true) ∧ Below w.heap.size w w' := by
  show Calls Tryz.prog 6 #[.agg (scCells zh0).toArray, .slice ao1 n1 cap1] w fun e w' => e = .returned (.bool true) ∧ Below w.heap.size w w'
  obtain ⟨bg, hbg⟩ : ∃ b, greatSc zh0 zx0 = b := ⟨_, rfl⟩
  have few0 : bg = false → ScAt w zh0 zx0 zs0 := fun e => few_great hG0 hR0 (hbg.trans e)
  have V0 : OneV 13 w (scCells zh0) (.bool bg) := ⟨fun w' hw => great10_is (hG0.ex10 hw) (hR0.ex hw) hbg⟩
  replace few0 := Hush9.mk few0
  have hlen := hl1.len
  clear hG0 hR0 hbg
  obtain ⟨b, hb⟩ : ∃ b, w.heap.size = b := ⟨_, rfl⟩
  go_enter Tryz.func6, Tryz.ntmps6
  go_upto_region 1 with fail
  refine name_w (fun w' => (∃ y, w' = plus w y) ∧ w'.heap[b]? = some (.cells (scCells zh0).toArray 34)) ⟨sk9, hb ▸ blk_new2 _ _⟩ ?_
  try simp only [hb]
  rintro w0 ⟨x0, k0⟩
  go_upto_region 2 with (go_at_call 11; refine (alive_calls _).mono ?_; rintro e w' ⟨rfl, nx9, rfl⟩)
  refine name_w (fun w' => ∃ y, w' = plus w0 y) sk9 ?_
  rintro w1 x1
  have g1 := ex_trans x0 x1
  have k0 := blk_ex x1 k0
  cases bg
  rotate_left
  · go_wp2_with (first | (refine wpList_load_row rfl 34 (Operand.tmp 2) rfl b (by kernel_rfl) _ _ _ _ (by exact blk_ex (sk9) k0) Tryz.underlying34 rfl (by kernel_rfl) ?_) | (go_at_call 13; refine (V0.it _ (ex_trans g1 sk9)).mono ?_; rintro e w' ⟨rfl, nx, rfl⟩))
    go_ret
    exact ⟨rfl, below_ex (ex_trans g1 sk9)⟩
  by_cases h30 : 30 < n1
  · have i30 : (30 : Int) < (n1 : Int) := by omega
    go_wp2_with (first | (refine wpList_load_row rfl 34 (Operand.tmp 2) rfl b (by kernel_rfl) _ _ _ _ (by exact blk_ex (sk9) k0) Tryz.underlying34 rfl (by kernel_rfl) ?_) | (go_at_call 13; refine (V0.it _ (ex_trans g1 sk9)).mono ?_; rintro e w' ⟨rfl, nx, rfl⟩))
    go_ret
    exact ⟨rfl, below_ex (ex_trans g1 sk9)⟩
  have i30 : ¬ (30 : Int) < (n1 : Int) := by omega
  have e30 := decide_eq_false i30
  have A0 := few0.it rfl
  clear few0
  cases hm : maySc zs0
  · have CK : OneV 12 w (scCells zh0) (.int .i64 8) := ⟨fun w' hw => lcheck10_is (A0.ex hw) (by rw [scErr, hm]; rfl)⟩
    replace hm := Hush9.mk hm
    go_wp2_with (first | (refine wpList_load_row rfl 34 (Operand.tmp 2) rfl b (by kernel_rfl) _ _ _ _ (by exact blk_ex (sk9) k0) Tryz.underlying34 rfl (by kernel_rfl) ?_) | (with_reducible refine wpList_row_guarded 34 (Operand.tmp 2) rfl b (by kernel_rfl) _ _ _ _ (blk_ex (sk9) k0) Tryz.underlying34 (by kernel_rfl) (by kernel_rfl) (by kernel_rfl) ?_) | (go_at_call 13; refine (V0.it _ (ex_trans g1 sk9)).mono ?_; rintro e w' ⟨rfl, nx, rfl⟩) | (go_at_call 12; refine (CK.it _ (ex_trans g1 sk9)).mono ?_; rintro e w' ⟨rfl, nx, rfl⟩))
    go_ret
    exact ⟨rfl, below_ex (ex_trans g1 sk9)⟩
  have CK : OneV 12 w (scCells zh0) (.int .i64 0) := ⟨fun w' hw => lcheck10_is (A0.ex hw) (by rw [scErr, hm]; rfl)⟩
  replace hm := Hush9.mk hm
  go_upto_region 4 with (first | (refine wpList_load_row rfl 34 (Operand.tmp 2) rfl b (by kernel_rfl) _ _ _ _ (by exact blk_ex (sk9) k0) Tryz.underlying34 rfl (by kernel_rfl) ?_) | (with_reducible refine wpList_row_guarded 34 (Operand.tmp 2) rfl b (by kernel_rfl) _ _ _ _ (blk_ex (sk9) k0) Tryz.underlying34 (by kernel_rfl) (by kernel_rfl) (by kernel_rfl) ?_) | (go_at_call 13; refine (V0.it _ (ex_trans g1 sk9)).mono ?_; rintro e w' ⟨rfl, nx, rfl⟩) | (go_at_call 12; refine (CK.it _ (ex_trans g1 sk9)).mono ?_; rintro e w' ⟨rfl, nx, rfl⟩))
  refine name_w (fun w' => ∃ y, w' = plus w1 y) sk9 ?_
  rintro w2 x2
  have g2 := ex_trans g1 x2
  have k02 := blk_ex x2 k0
  have hsz : b < w2.heap.size := blk_lt k02
  clear V0 CK k0 x0 x1 g1
  go_wp2
  go_loopw [6] (fun i wr => ∃ k : Nat, k ≤ n1 ∧ i = .int .i64 k ∧ (∀ j, j < k → (nth eh0 aes j).nd.n ≤ 200) ∧ ∃ y, wr = plus w2 y) (fun i _ => n1 - (intOf i).toNat)
  case atStart => exact ⟨0, Nat.zero_le _, rfl, fun j hj => by omega, sk9⟩
  case round =>
    obtain ⟨k, hk, rfl, hs1, y, rfl⟩ := hrel
    by_cases hkl : k < n1
    · obtain ⟨g, o, rfl, hgl, hcell⟩ := hl1.some (by omega)
      have ik : (k : Int) < (n1 : Int) := by omega
      have hpE := lay_part (d := eh0) hlen fE_c hcell hkl
      obtain ⟨ps, nd, ms, tp, hE⟩ := hk1 k (by omega)
      obtain ⟨be, hbe⟩ : ∃ v, greatEd (nth eh0 aes k) ps = v := ⟨_, rfl⟩
      have hnE : be = false → (nth eh0 aes k).nd.n ≤ 200 := fun q => by
        rw [q] at hbe
        simp only [greatEd, Bool.or_eq_false_iff, decide_eq_false_iff_not] at hbe
        omega
      have GE : OneV 22 w (fE (nth eh0 aes k)) (.bool be) := ⟨fun w' hw => rgreatE_is (hE.ex hw) hbe⟩
      replace hpE := Hush9.mk hpE
      replace hnE := Hush9.mk hnE
      replace hs1 := Hush9.mk hs1
      clear hcell hbe hE
      cases be
      · go_wp2_with (first | (refine wpList_load_part rfl 66 (Operand.tmp 37) rfl g (o + k * 45) rfl (fE (nth eh0 aes k)) _ (fun j v hj => cell_ex (ex_trans g2 sk9) (hpE.it j v hj)) Tryz.underlying66 rfl (by kernel_rfl) ?_) | (go_at_call 22; refine (GE.it _ (ex_trans g2 sk9)).mono ?_; rintro e w' ⟨rfl, nx, rfl⟩))
        go_roundw
        case rel => exact ⟨k + 1, by omega, by go_num, fun j hj => by by_cases hjk : j = k; · subst hjk; exact hnE.it (by first | rfl | trivial)
                                                                      · exact hs1.it j (by omega), sk9⟩
        case measure => simp [intOf]; omega
      · go_wp2_with (first | (refine wpList_load_part rfl 66 (Operand.tmp 37) rfl g (o + k * 45) rfl (fE (nth eh0 aes k)) _ (fun j v hj => cell_ex (ex_trans g2 sk9) (hpE.it j v hj)) Tryz.underlying66 rfl (by kernel_rfl) ?_) | (go_at_call 22; refine (GE.it _ (ex_trans g2 sk9)).mono ?_; rintro e w' ⟨rfl, nx, rfl⟩))
        go_ret
        exact ⟨rfl, by first | exact below_ex (ex_trans g2 sk9) | (rw [← hb]; exact below_ex (ex_trans g2 sk9))⟩
    · have ik : ¬ (k : Int) < (n1 : Int) := by omega
      obtain rfl : n1 = k := by omega
      replace hs1 := Hush9.mk hs1
      have I0 : KpI w b zh0 zx0 zs0 (plus w2 y) zh0 zx0 zs0 := ⟨ex_trans g2 ⟨y, rfl⟩, blk_ex ⟨y, rfl⟩ k02, hm.it, .inl ⟨rfl, rfl, rfl⟩⟩
      obtain ⟨wz, hwz⟩ : ∃ v, plus w2 y = v := ⟨_, rfl⟩
      rw [hwz] at I0 ⊢
      have hbz : b < wz.heap.size := blk_lt I0.bx
      clear hwz k02
      go_wp2
      go_loopw [7] (fun i wr => ∃ (k : Nat) (h : SH) (x : SX) (s : Sc), k ≤ n1 ∧ i = .int .i64 k ∧ KpI w b zh0 zx0 zs0 wr h x s) (fun i _ => n1 - (intOf i).toNat)
      case atStart => exact ⟨0, _, _, _, Nat.zero_le _, rfl, I0.on sk9⟩
      case round =>
        obtain ⟨k, h, x, s, hk, rfl, I⟩ := hrel
        have hAt := I.at A0
        have kb := I.bx
        by_cases hkl : k < n1
        · obtain ⟨g, o, rfl, hgl, hcell⟩ := hl1.some (by omega)
          have ik : (k : Int) < (n1 : Int) := by omega
          have hpE := Hush9.mk (lay_part (d := eh0) hlen fE_c hcell hkl)
          obtain ⟨ps, nd, ms, tp, hE⟩ := hk1 k (by omega)
          have hfar : (nth eh0 aes k).nd.n ≤ 10000 := by have := hs1.it k hkl; omega
          obtain ⟨er, her⟩ : ∃ v, doErr s (toEd (nth eh0 aes k) nd ms tp) = v := ⟨_, rfl⟩
          obtain ⟨S, hS⟩ : ∃ v, doSc s (toEd (nth eh0 aes k) nd ms tp) = v := ⟨_, rfl⟩
          obtain ⟨A, hA⟩ : ∃ v, (tookH s (toEd (nth eh0 aes k) nd ms tp)).1 = v := ⟨_, rfl⟩
          obtain ⟨Bq, hB⟩ : ∃ v, (tookH s (toEd (nth eh0 aes k) nd ms tp)).2 = v := ⟨_, rfl⟩
          obtain ⟨C, hC⟩ : ∃ v, tookN s (toEd (nth eh0 aes k) nd ms tp) = v := ⟨_, rfl⟩
          have DV : DoV wr (scCells h) (fE (nth eh0 aes k)) A Bq C er S := do_v hAt (hE.ex I.ex) hfar (Prod.ext hA hB) hC her hS
          have hno : er ≠ 0 → A = 0 ∧ Bq = 0 ∧ C = 0 ∧ S = sc0 := fun q => by
            obtain ⟨r1, r2, r3⟩ := do_refused her q
            exact ⟨by rw [← hA, r2], by rw [← hB, r2], by rw [← hC, r3], by rw [← hS, r1]⟩
          have hyes : er = 0 → maySc S = true := fun q => hS ▸ do_may (her.trans q)
          have hfS : FewSc S := hS ▸ few_do
          replace hno := Hush9.mk hno
          replace hyes := Hush9.mk hyes
          have lkb := blk_lt kb
          clear hcell hE her hS hA hB hC hAt
          go_wp2
          refine region_relD 14 kpS (kpΦ w wr.heap.size (scCells h) k g o n1 cap1 (nth eh0 aes k) A Bq C er S) (Fil2 12 13 34 36 wr.heap.size) (fil_trans (by decide)) (fil_draw _) (by kernel_rfl) (by kernel_rfl) (by decide) (kpΦ_mono w wr.heap.size (scCells h) k g o n1 cap1 (nth eh0 aes k) A Bq C er S) ?steps ?fin
          case steps =>
            refine ⟨?_, ?_, ?_, ?_, ?_, ?_, ?_, ?_, ?_, ?_, ?_, ?_, ?_, ?_, trivial⟩
            · intro a D w' hg hfree hdeep hD
              obtain ⟨x9, rfl⟩ := fil_ex hg (ex_refl _) (Nat.le_refl _)
              have f2_ := hfree 2 (by kernel_rfl)
              simp only [got] at f2_
              simp at f2_
              have kq := blk_ex (w' := plus wr x9) ⟨x9, rfl⟩ I.bx
              unfold Oper.wp
              rw [exec_load_part 34 (Operand.tmp 2) rfl b 0 (by simp [Act.eval, f2_]) (scCells h) _ (fun j v hj => by rw [Nat.zero_add]; exact cell_of kq hj) Tryz.underlying34 rfl (by kernel_rfl)]
              exact ⟨_, rfl, fil_grow (ex_refl _), by simp [kpΦ, upd]⟩
            · intro a D w' hg hfree hdeep hD
              obtain ⟨x9, rfl⟩ := fil_ex hg (ex_refl _) (Nat.le_refl _)
              have f1_ := hfree 1 (by kernel_rfl)
              simp only [kpΦ, got] at f1_
              simp [go_sem] at f1_
              unfold Oper.wp
              simp [go_sem, execOp, Act.eval, ↓IntWalk.iteOmega, f1_]
              exact ⟨_, rfl, fil_grow (ex_refl _), by simp [kpΦ, upd]⟩
            · intro a D w' hg hfree hdeep hD
              obtain ⟨x9, rfl⟩ := fil_ex hg (ex_refl _) (Nat.le_refl _)
              have f7_ := hfree 7 (by kernel_rfl)
              simp only [kpΦ, got] at f7_
              simp [go_sem] at f7_
              unfold Oper.wp
              simp [go_sem, execOp, Act.eval, ↓IntWalk.iteOmega, f7_]
              exact ⟨_, rfl, fil_grow (ex_refl _), by simp [kpΦ, upd]⟩
            · intro a D w' hg hfree hdeep hD
              obtain ⟨x9, rfl⟩ := fil_ex hg (ex_refl _) (Nat.le_refl _)
              have d1 := hdeep 1 (by kernel_rfl)
              have d2 := hdeep 2 (by kernel_rfl)
              simp only [kpΦ, got] at d1 d2
              simp [go_sem] at d1 d2
              unfold Oper.wp
              simp [go_sem, execOp, Act.eval, ↓IntWalk.iteOmega, d1, d2, ik]
              exact ⟨_, rfl, fil_grow (ex_refl _), by simp [kpΦ, upd]⟩
            · intro a D w' hg hfree hdeep hD
              obtain ⟨x9, rfl⟩ := fil_ex hg (ex_refl _) (Nat.le_refl _)
              have e9 := hdeep 3 (by kernel_rfl)
              simp only [kpΦ, got] at e9
              simp at e9
              unfold Oper.wp
              rw [exec_load_part 66 (Operand.tmp 50) rfl g (o + k * 45) (by simp [Act.eval, e9]) (fE (nth eh0 aes k)) _ (fun j v hj => cell_ex (w' := plus wr x9) ⟨x9, rfl⟩ (cell_ex I.ex (hpE.it j v hj))) Tryz.underlying66 rfl (by kernel_rfl)]
              exact ⟨_, rfl, fil_grow (ex_refl _), by simp [kpΦ, upd]⟩
            · intro a D w' hg hfree hdeep hD
              obtain ⟨x9, rfl⟩ := fil_ex hg (ex_refl _) (Nat.le_refl _)
              have e0 := hdeep 0 (by kernel_rfl)
              have e4 := hdeep 4 (by kernel_rfl)
              simp only [kpΦ, got] at e0 e4
              simp at e0 e4
              unfold Oper.wp
              simp [go_sem, execOp, Act.eval, ↓IntWalk.iteOmega, e0, e4]
              refine (DV.it _ ⟨x9, rfl⟩).mono ?_
              rintro r w4 ⟨h', x', rfl, hx, ho⟩
              exact ⟨_, rfl, fil_grow hx, h', x', by simp [upd], ho.base (size_ex (ex_trans I.ex ⟨x9, rfl⟩))⟩
            · intro a D w' hg hfree hdeep hD
              obtain ⟨x9, rfl⟩ := fil_ex hg (ex_refl _) (Nat.le_refl _)
              obtain ⟨h', x', e5, o5⟩ := hdeep 5 (by kernel_rfl)
              have g5 := e5
              simp only [got] at g5
              simp at g5
              unfold Oper.wp
              simp [go_sem, execOp, Act.eval, ↓IntWalk.iteOmega, g5]
              exact ⟨_, rfl, fil_grow (ex_refl _), h', x', by simp [upd], o5⟩
            · intro a D w' hg hfree hdeep hD
              obtain ⟨x9, rfl⟩ := fil_ex hg (ex_refl _) (Nat.le_refl _)
              obtain ⟨h', x', e5, o5⟩ := hdeep 6 (by kernel_rfl)
              have g5 := e5
              simp only [got] at g5
              simp at g5
              unfold Oper.wp
              simp [go_sem, execOp, Act.eval, ↓IntWalk.iteOmega, g5]
              exact ⟨_, rfl, fil_grow (ex_refl _), h', x', by simp [upd], o5⟩
            · intro a D w' hg hfree hdeep hD
              obtain ⟨x9, rfl⟩ := fil_ex hg (ex_refl _) (Nat.le_refl _)
              obtain ⟨h', x', e5, o5⟩ := hdeep 6 (by kernel_rfl)
              have g5 := e5
              simp only [got] at g5
              simp at g5
              unfold Oper.wp
              simp [go_sem, execOp, Act.eval, ↓IntWalk.iteOmega, g5]
              exact ⟨_, rfl, fil_grow (ex_refl _), by simp [kpΦ, upd]⟩
            · intro a D w' hg hfree hdeep hD
              obtain ⟨x9, rfl⟩ := fil_ex hg (ex_refl _) (Nat.le_refl _)
              obtain ⟨h', x', e5, o5⟩ := hdeep 6 (by kernel_rfl)
              have g5 := e5
              simp only [got] at g5
              simp at g5
              unfold Oper.wp
              simp [go_sem, execOp, Act.eval, ↓IntWalk.iteOmega, g5]
              exact ⟨_, rfl, fil_grow (ex_refl _), by simp [kpΦ, upd]⟩
            · intro a D w' hg hfree hdeep hD
              obtain ⟨x9, rfl⟩ := fil_ex hg (ex_refl _) (Nat.le_refl _)
              unfold Oper.wp
              simp [go_sem, execOp, Act.eval, ↓IntWalk.iteOmega]
              exact ⟨_, rfl, fil_grow (ex_alloc (ex_refl _)), wr.heap.size + (blocks x9).size, by simp [upd], by omega, fun _ => by (rw [blk_alloc, if_pos (by rw [plus_size])] <;> rfl)⟩
            · intro a D w' hg hfree hdeep hD
              obtain ⟨x9, rfl⟩ := fil_ex hg (ex_refl _) (Nat.le_refl _)
              unfold Oper.wp
              simp [go_sem, execOp, Act.eval, ↓IntWalk.iteOmega]
              exact ⟨_, rfl, fil_grow (ex_alloc (ex_refl _)), wr.heap.size + (blocks x9).size, by simp [upd], by omega, fun _ => by (rw [blk_alloc, if_pos (by rw [plus_size])] <;> rfl)⟩
            · intro a D w' hg hfree hdeep hD
              obtain ⟨p, e8, hBp, hz⟩ := hdeep 10 (by kernel_rfl)
              obtain ⟨h', x', e53, o5⟩ := hdeep 7 (by kernel_rfl)
              have g8 := e8
              have g53 := e53
              simp only [got] at g8 g53
              simp at g8 g53
              have hz' := hz hD
              refine wp_store_row 34 (Operand.tmp 8) (Operand.tmp 53) rfl p (scCells h').toArray (by simp [Act.eval, g8]) (by simp [Act.eval, g53]) _ _ hz' (by kernel_rfl) (by kernel_rfl) (Array.all_eq_true_iff_forall_mem.2 fun v hv => scCells_1 h' v (by simpa using hv)) ?_
              exact ⟨_, rfl, fil_row (.inl ⟨rfl, rfl⟩) hD hBp hz', also_self' _, p, h', x', by simp [upd]; exact e8, hBp, blk_row_eq hz', o5.row_other hz' (by decide)⟩
            · intro a D w' hg hfree hdeep hD
              obtain ⟨p, e9, hBp, hz⟩ := hdeep 11 (by kernel_rfl)
              have e54 := hdeep 8 (by kernel_rfl)
              have g9 := e9
              simp only [kpΦ, got] at g9 e54
              simp at g9 e54
              have hz' := hz hD
              refine wp_store_row 36 (Operand.tmp 9) (Operand.tmp 54) rfl p #[.int .i64 A, .int .i64 Bq, .int .i64 C] (by simp [Act.eval, g9]) (by simp [Act.eval, e54]) _ _ hz' (by kernel_rfl) (by kernel_rfl) (by kernel_rfl) ?_
              exact ⟨_, rfl, fil_row (.inr ⟨rfl, rfl⟩) hD hBp hz', also_self' _, p, by simp [upd]; exact e9, hBp, blk_row_eq hz'⟩
          case fin =>
            rintro t D w9 hDa hg hΦ
            have e55 := hΦ 9 (by decide)
            obtain ⟨_, p8, h', x', e8, hp8, kp8, own⟩ := hΦ 12 (by decide)
            obtain ⟨_, p9, e9, hp9, kp9⟩ := hΦ 13 (by decide)
            simp only [kpΦ] at e55
            have x9 := fil_ex hg (ex_refl wr) (Nat.le_refl _)
            simp only [putAll, List.take_succ_cons, List.take_zero, List.drop_succ_cons, List.drop_zero, e8, e9, e55]
            simp only [Act.put]
            simp only [List.setIfInBounds_toArray, List.set_cons_succ, List.set_cons_zero]
            clear hΦ e8 e9 e55 hg hDa DV
            have I9 := I.on x9
            have AS := own.at hfS
            have l8 := blk_lt kp8
            have l9 := blk_lt kp9
            by_cases h0 : er = 0
            rotate_left
            · obtain ⟨rfl, rfl, rfl, rfl⟩ := hno.it h0
              have d0 : (er == 0) = false := by rw [beq_eq_false_iff_ne]; exact h0
              have c0 : w9.cell? ⟨p9, 0, none⟩ = some (.int .i64 0) := cell_blk kp9 rfl
              have c1 : w9.cell? ⟨p9, 1, none⟩ = some (.int .i64 0) := cell_blk kp9 rfl
              have c2 : w9.cell? ⟨p9, 2, none⟩ = some (.int .i64 0) := cell_blk kp9 rfl
              have SM : TwoV 20 w9 (scCells h') (scCells sh0) (.bool true) := ⟨fun w' hw => lsame10_is (AS.ex hw) sc0_at (sameSc_refl _)⟩
              go_wp2_with (first | (refine wpList_load_row rfl 34 (Operand.tmp 8) rfl p8 (by kernel_rfl) _ _ _ _ (by exact blk_ex (sk9) kp8) Tryz.underlying34 rfl (by kernel_rfl) ?_) | (refine wpList_build_is rfl 34 _ rfl (scCells sh0) ?hf ?_; case hf => (simp only [List.map_toArray, List.map_cons, List.map_nil]; kernel_rfl)) | (go_at_call 20; refine (SM.it _ sk9).mono ?_; rintro e w' ⟨rfl, nx, rfl⟩))
              go_roundw
              case rel => exact ⟨k + 1, h, x, s, by omega, by go_num, I9.on sk9⟩
              case measure => simp [intOf]; omega
            subst h0
            have hmS := hyes.it (by first | rfl | trivial)
            have CS : OneV 12 w9 (scCells h') (.int .i64 0) := ⟨fun w' hw => lcheck10_is (AS.ex hw) (by rw [scErr, hmS]; rfl)⟩
            replace hmS := Hush9.mk hmS
            have kb9 := blk_ex x9 kb
            go_wp2_with (first | (refine wpList_load_row rfl 34 (Operand.tmp 8) rfl p8 (by kernel_rfl) _ _ _ _ (by exact blk_ex (sk9) kp8) Tryz.underlying34 rfl (by kernel_rfl) ?_) | (go_at_call 12; refine (CS.it _ sk9).mono ?_; rintro e w' ⟨rfl, nx, rfl⟩) | (refine wpList_store_box rfl 34 (Operand.tmp 2) _ rfl b (scCells h') rfl rfl 34 (scCells h).toArray (by exact blk_ex sk9 kb9) (by kernel_rfl) (by kernel_rfl) (scCells_1 _) ?_))
            go_roundw
            case rel => exact ⟨k + 1, h', x', S, by omega, by go_num, ⟨ex_row_new (ex_trans I9.ex sk9) (by omega), blk_row_eq (blk_ex sk9 kb9), hmS.it, .inr ((own.ex sk9).row_other (blk_ex sk9 kb9) (by decide))⟩⟩
            case measure => simp [intOf]; omega
        · have ik : ¬ (k : Int) < (n1 : Int) := by omega
          have hmay := I.may
          have CZ : OneV 12 wr (scCells h) (.int .i64 0) := ⟨fun w' hw => lcheck10_is (hAt.ex hw) (by rw [scErr, hmay]; rfl)⟩
          replace hmay := Hush9.mk hmay
          go_wp2_with (first | (refine wpList_load_row rfl 34 (Operand.tmp 2) rfl b (by kernel_rfl) _ _ _ _ (by exact blk_ex (sk9) kb) Tryz.underlying34 rfl (by kernel_rfl) ?_) | (go_at_call 12; refine (CZ.it _ sk9).mono ?_; rintro e w' ⟨rfl, nx, rfl⟩))
          go_ret
          exact ⟨rfl, by first | exact below_ex (ex_trans I.ex sk9) | (rw [← hb]; exact below_ex (ex_trans I.ex sk9))⟩

set_option maxRecDepth 100000 in
theorem editKeeps_lifted (os : Os) (started : os.Started) (H : Type) (enc : TypeId × Value → H) :
    ReturnsInHanded {} Tryz.checked os 6 .any (Rows.editKeepsSpec.pre6 enc Tryz.prog Tryz.f6 Rows.editKeepsRow.domain false) (Rows.editKeepsSpec.post enc Tryz.prog Tryz.f6 false true false false) := by
  refine returnsInHanded_of_change_sized (C := Tryz.checked) own started (by kernel_rfl) Tryz.func6
    (ChangeSpec.witness6 (enc := enc) (C := Tryz.checked) false ⟨#[], #[.agg #[.slice none 0 0, .slice none 0 0, .slice none 0 0, .slice none 0 0, .slice none 0 0, .int .i64 0, .int .i64 0], .slice none 0 0], []⟩ 8 (by kernel_rfl) (by kernel_rfl) (by kernel_rfl) (by kernel_rfl)) ?_
  intro W base args ds gs before hval0 hW hcnd hsz _
  have hval : ∀ (j : Nat) t v, Tryz.f6.params[j]? = some t → args[j]? = some v → Value.okWide Tryz.prog W .any base t v := hval0
  have hW' := hW
  obtain ⟨p, q, hA0, hV, rfl, hfz, hnd⟩ := hW
  have hA : DataW.TrodAll enc Tryz.prog W 0 (fun _ => true) true Tryz.f6.params.toList args.toList ds p := hA0
  rw [Tryz.params6] at hA hval
  obtain ⟨v0, vs0, d0, ds0, p0, q0, hargs, rfl, rfl, h0, r0⟩ := trodAll_cons hA
  obtain ⟨v1, vs1, d1, ds1, p1, q1, rfl, rfl, rfl, h1, r1⟩ := trodAll_cons r0
  obtain ⟨rfl, rfl, rfl⟩ := trodAll_nil r1
  obtain rfl : args = #[v0, v1] := by cases args; simp_all
  obtain ⟨zh0, zx0, zs0, rfl, hG0, hR0⟩ := open_scene (sm_of hsz (j := 0) (by kernel_rfl) rfl) (hval 0 34 v0 rfl rfl) h0
  obtain ⟨fu1, x1, hx1⟩ := slice_cell Tryz.underlying82 (hval 1 82 v1 rfl rfl) h1
  obtain ⟨ao1, n1, cap1, rfl, hn1, _, ho1⟩ := open_sl (c := 45) Tryz.underlying82 (by kernel_rfl) (by decide) hx1
  obtain ⟨es1, hl1, hk1⟩ := lay_edits ho1
  refine (editKeeps_walk zh0 zx0 zs0 ao1 n1 cap1 es1  W hG0 hR0 hn1 hl1 hk1).mono fun e W' ⟨he, hb⟩ => ?_
  exact ⟨_, he, law_post laidOut Tryz.underlying4 rfl (by kernel_rfl) (by kernel_rfl) (fun ds h => match ds, h with | [_, _], _ => rfl) hW' hb⟩

theorem editKeeps_holds : Rows.EditKeepsSaid :=
  OpenClaim.holds_of_wide 6 Tryz.f6 rfl rfl rfl rfl rfl rfl rfl ⟨rfl, rfl, rfl, rfl, rfl⟩ rfl rfl rfl rfl rfl (by kernel_rfl) Tryz.func6 (by kernel_rfl)
    (of_decide_eq_true (by kernel_rfl)) (by unfold Func.isWrapper; first | (rw [if_pos (by decide +kernel)]; kernel_rfl) | (rw [if_neg (by decide +kernel)]; exact ⟨rfl, rfl⟩))
    (fun os started H enc _ => editKeeps_lifted os started H enc)
#print axioms editKeeps_holds

end

end Go.Proofs.YtcekcihijdipoaaGreat
