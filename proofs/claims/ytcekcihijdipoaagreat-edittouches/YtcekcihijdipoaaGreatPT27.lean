/- A pack of texts: EdDo4, EdDo, EdAl, EdTo, EdKids, EdLw. -/
import Derived.Test.YtcekcihijdipoaaGreatPT26
import Derived.Test.YtcekcihijdipoaaGreatPT9
import Derived.Test.YtcekcihijdipoaaGreatPT5
import Derived.Test.YtcekcihijdipoaaGreatPT6
import Derived.Test.YtcekcihijdipoaaGreatPT4
import Derived.Test.YtcekcihijdipoaaGreatPT1
import Derived.Test.YtcekcihijdipoaaGreatPT21
namespace Go.Proofs.YtcekcihijdipoaaGreat

section


open Go.RowKit Go.ChangeShapes Go.WideShapes Go.ChangeAt

set_option linter.unusedSimpArgs false

set_option linter.unusedVariables false

attribute [local go_sem] plus_size plus_drew dn_set dn_alloc dn_plus plus_dn cell_plus frozen_plus set_plus cell_alloc frozen_alloc set_alloc

def RetDx (w : World) (S : Sc) (A B C er : Int) (e : Ending) (w' : World) : Prop := ∃ h' x', e = .returned (.tuple #[.agg (scCells h').toArray, .agg #[.int .i64 A, .int .i64 B, .int .i64 C], .int .i64 er]) ∧ (∃ y, w' = plus w y) ∧ (er = 0 → ScOwn w w' h' x' S) ∧ (er ≠ 0 → h' = sh0 ∧ x' = sx0)

theorem ScOwn.grown_ty {T w w' : World} {h : SH} {x : SX} {s : Sc} {k : Nat} {cur : Array Value} {e' : TypeId} (a : ScOwn T w h x s) (hg : w.grownBy w' (some k)) (hb : w.heap[k]? = some (.cells cur e')) (he : e' ∉ scTypes) : ScOwn T w' h x s := by
  simp only [scTypes, List.mem_cons, List.not_mem_nil, or_false, not_or] at he
  obtain ⟨e1, e2, e3, e4, e5, e6, e7, e8, e9, e10, e11⟩ := he
  have o : ∀ {α : Type} {f : α → List Value} {ao : Option Addr} {n cap c : Nat} {l : List α} {e : TypeId}, Own e c f T w ao n cap l → e' ≠ e → Own e c f T w' ao n cap l := fun h1 h2 => own_grown_ty h1 hg hb h2
  exact ⟨⟨o a.g.sl e1, o a.g.kh e2, a.g.len, fun k hk => o (a.g.row k hk) e3⟩, o a.nl e4, a.nlen, fun k hk => ⟨(a.ns k hk).f, (a.ns k hk).b, o (a.ns k hk).far e5⟩, o a.ml e6, a.mlen, fun k hk => ⟨⟨o (a.ms k hk).t.v e7, o (a.ms k hk).t.u e8, o (a.ms k hk).t.p e9, (a.ms k hk).t.len, (a.ms k hk).t.kind, fun j hj => o ((a.ms k hk).t.ix j hj) e5⟩, (a.ms k hk).b⟩, o a.tl e10, a.tlen, fun k hk => ⟨(a.ts k hk).we, (a.ts k hk).he, o (a.ts k hk).tx e11, (a.ts k hk).ok⟩, a.root, a.pl⟩

def dtS (i : Nat) : List Nat := match i with | 0 => [45] | 1 => [46] | 2 => [47] | 3 => [] | _ => []

def dtΦ (p qs : Nat) (cu : List Value) (A B C : Int) (gq : Option Nat) (i : Nat) (t : Nat → Value) (D : Nat → Bool) (w' : World) : Prop := match i with
  | 0 => t 45 = .pointer (some ⟨p, 0, none⟩)
  | 1 => t 46 = .agg cu.toArray
  | 2 => t 47 = .agg #[.int .i64 A, .int .i64 B, .int .i64 C]
  | 3 => D 3 = true ∧ w'.heap[qs]? = some (.cells cu.toArray 34)
  | _ => True

theorem dtΦ_mono (p qs : Nat) (cu : List Value) (A B C : Int) (gq : Option Nat) : ∀ i t t' D w D' w', dtΦ p qs cu A B C gq i t D w → (∀ s ∈ dtS i, t' s = t s) → TurnK 3 [] gq D w D' w' → dtΦ p qs cu A B C gq i t' D' w' := by
  intro i t t' D w D' w' h_ hs' ht
  match i with
  | 0 => exact (hs' 45 (by decide)).trans h_
  | 1 => exact (hs' 46 (by decide)).trans h_
  | 2 => exact (hs' 47 (by decide)).trans h_
  | 3 => exact ⟨ht.m 3 h_.1, blk_ex (tk_still ht h_.1) h_.2⟩
  | i + 4 => trivial

set_option maxRecDepth 100000 in
set_option maxHeartbeats 16000000 in
theorem do_via {h : SH} {x : SX} {s : Sc} {e : EH} {w : World} (hA : ScAt w h x s) (hm : maySc s = true) {kd : Int} {F : FuncId} (hk : e.kind = kd) (hlk : lookF doersL kd = .tuple #[.func (.func F) #[] #[], .bool true]) (eg : ∀ (args : Array Value) (w : World), (callFunc F args).run Tryz.prog w = .ok (.enter F args) w) {S : Sc} {A B C er : Int} (her : er ≠ 0 → A = 0 ∧ B = 0 ∧ C = 0)
    (HC : ∀ T w' p h1 x1, (∃ y, T = plus w y) → UwI T w' p h1 x1 s → Calls Tryz.prog F #[.pointer (some ⟨p, 0, none⟩), .agg (fE e).toArray] w' fun r w'' => RetM10 T p S A B C er r w'') :
    Calls Tryz.prog 9 #[.agg (scCells h).toArray, .agg (fE e).toArray] w fun r w' => RetDx w S A B C er r w' := by
  replace hlk := Hush9.mk hlk
  have ik : (fE e)[0]? = some (.int .u8 e.kind) := rfl
  obtain ⟨ce, hce⟩ : ∃ c, fE e = c := ⟨_, rfl⟩
  have lce : ce.length = 45 := by rw [← hce]; rfl
  have ace : ce.toArray.size = 45 := by simpa using lce
  obtain ⟨cs, hcs⟩ : ∃ c, scCells h = c := ⟨_, rfl⟩
  have lcs : cs.length = 7 := by rw [← hcs]; rfl
  have acs : cs.toArray.size = 7 := by simpa using lcs
  have CK : OneV 12 w cs (.int .i64 0) := ⟨fun w' hw => hcs ▸ lcheck10_is (hA.ex hw) (by rw [scErr, hm]; rfl)⟩
  rw [hce] at ik ⊢
  rw [hcs]
  obtain ⟨q, hq⟩ : ∃ q, w.heap.size = q := ⟨_, rfl⟩
  go_enter Tryz.func9, Tryz.ntmps9
  go_upto_region 1 with fail
  refine name_w (fun w' => (∃ y, w' = plus w y) ∧ w'.heap[q]? = some (.cells cs.toArray 34) ∧ w'.heap[q + 1]? = some (.cells ce.toArray 66) ∧ w'.heap[q + 2]? = some (.cells (scCells sh0).toArray 34) ∧ w'.heap[q + 3]? = some (.cells #[.int .i64 0, .int .i64 0, .int .i64 0] 36)) ⟨sk9, hq ▸ blk_old (blk_old (blk_old (blk_new2 _ _))), ?b1, ?b2, ?b3⟩ ?_
  case b1 => rw [← hq, ← size_alloc w (.cells cs.toArray 34)]; exact blk_old (blk_old (blk_new2 _ _))
  case b2 => rw [show q + 2 = ((w.alloc (.cells cs.toArray 34)).alloc (.cells ce.toArray 66)).heap.size by rw [size_alloc, size_alloc, hq]]; exact blk_old (blk_new2 _ _)
  case b3 => rw [show q + 3 = (((w.alloc (.cells cs.toArray 34)).alloc (.cells ce.toArray 66)).alloc (.cells (scCells sh0).toArray 34)).heap.size by rw [size_alloc, size_alloc, size_alloc, hq]]; exact blk_new2 _ _
  try simp only [hq]
  rintro w1 ⟨x1, k0, k1, k2, k3⟩
  rw [hk] at ik
  have LT : ∀ w', (∃ y, w' = plus w y) → Calls Tryz.prog 15 #[.agg cs.toArray] w' fun e w'' => ∃ h' x', e = .returned (.agg (scCells h').toArray) ∧ (∃ y, w'' = plus w' y) ∧ ScOwn w' w'' h' x' s := fun w' hw => hcs ▸ ltwin10_is (hA.ex hw)
  replace LT := Hush9.mk LT
  rw [hce] at HC
  replace HC := Hush9.mk HC
  replace her := Hush9.mk her
  go_upto_region 4 with (first | (refine wpList_load_row rfl 34 (Operand.tmp 2) rfl q (by kernel_rfl) _ _ _ _ (blk_ex sk9 k0) Tryz.underlying34 rfl (by rw [acs]; kernel_rfl) ?_) | (go_at_call 12; refine (CK.it _ (ex_trans x1 sk9)).mono ?_; rintro r w2 ⟨rfl, x2⟩))
  refine name_w (fun w' => ∃ y, w' = plus w1 y) (by first | exact ex_trans x2 (sk9) | exact sk9) ?_
  rintro w2 x2
  have k0_ := blk_ex x2 k0
  have k1_ := blk_ex x2 k1
  clear k0 k1 
  obtain ⟨k0, k1⟩ := And.intro k0_ k1_
  have ek := cell_of k1 ik
  refine region_rels 8 ldS (ldΦ (q + 1) kd (.func (.func F) #[] #[]) true) (by kernel_rfl) (by kernel_rfl) (by decide) (ldΦ_mono (q + 1) kd (.func (.func F) #[] #[]) true) ?steps ?fin
  case steps =>
    refine ⟨?_, ?_, ?_, ?_, ?_, ?_, ?_, ?_, trivial⟩
    · intro a w' hg hfree hdeep
      obtain ⟨x, rfl⟩ := hg
      unfold Oper.wp
      simp [go_sem, execOp, Act.eval, ↓IntWalk.iteOmega]
      refine (doers_calls _).mono ?_
      rintro r w2 ⟨b, rfl, hw2, f2⟩
      exact ⟨_, rfl, hw2, b, by simp [upd], _, f2⟩
    · intro a w' hg hfree hdeep
      obtain ⟨x, rfl⟩ := hg
      have f3_ := hfree 3 (by kernel_rfl)
      simp only [ldΦ, got] at f3_
      simp [go_sem] at f3_
      unfold Oper.wp
      simp [go_sem, execOp, Act.eval, ↓IntWalk.iteOmega, f3_]
      exact ⟨_, rfl, ex_refl _, by simp [ldΦ, upd]⟩
    · intro a w' hg hfree hdeep
      obtain ⟨x, rfl⟩ := hg
      have d1 := hdeep 1 (by kernel_rfl)
      simp only [ldΦ, got] at d1
      have cke := cell_ex (w' := plus w2 x) ⟨x, rfl⟩ ek
      unfold Oper.wp
      simp [go_sem, execOp, Act.eval, ↓IntWalk.iteOmega, d1, cke]
      exact ⟨_, rfl, ex_refl _, by simp [ldΦ, upd]⟩
    · intro a w' hg hfree hdeep
      obtain ⟨x, rfl⟩ := hg
      obtain ⟨b, e21, V, f2⟩ := hdeep 0 (by kernel_rfl)
      have e23 := hdeep 2 (by kernel_rfl)
      simp only [ldΦ, got] at e21 e23
      simp at e21 e23
      have hl := look_u8 f2 kd
      rw [hlk.it] at hl
      unfold Oper.wp
      simp [go_sem, execOp, Act.eval, ↓IntWalk.iteOmega, e21, e23, hl, Result.andThen]
      exact ⟨_, rfl, ex_refl _, by simp [ldΦ, upd]⟩
    · intro a w' hg hfree hdeep
      obtain ⟨x, rfl⟩ := hg
      have d3 := hdeep 3 (by kernel_rfl)
      simp only [ldΦ, got] at d3
      unfold Oper.wp
      simp [go_sem, execOp, Act.eval, ↓IntWalk.iteOmega, d3]
      exact ⟨_, rfl, ex_refl _, by simp [ldΦ, upd]⟩
    · intro a w' hg hfree hdeep
      obtain ⟨x, rfl⟩ := hg
      have d4 := hdeep 4 (by kernel_rfl)
      simp only [ldΦ, got] at d4
      unfold Oper.wp
      simp [go_sem, execOp, Act.eval, ↓IntWalk.iteOmega, d4]
      exact ⟨_, rfl, ex_refl _, by simp [ldΦ, upd]⟩
    · intro a w' hg hfree hdeep
      obtain ⟨x, rfl⟩ := hg
      have d4 := hdeep 4 (by kernel_rfl)
      simp only [ldΦ, got] at d4
      unfold Oper.wp
      simp [go_sem, execOp, Act.eval, ↓IntWalk.iteOmega, d4]
      exact ⟨_, rfl, ex_refl _, by simp [ldΦ, upd]⟩
    · intro a w' hg hfree hdeep
      obtain ⟨x, rfl⟩ := hg
      have d5 := hdeep 5 (by kernel_rfl)
      simp only [ldΦ, got] at d5
      unfold Oper.wp
      simp [go_sem, execOp, Act.eval, ↓IntWalk.iteOmega, d5]
      exact ⟨_, rfl, ex_refl _, by simp [ldΦ, upd]⟩
  case fin =>
    rintro t w3 x3 hΦ
    have r5 := hΦ 5 (by decide)
    have r6 := hΦ 6 (by decide)
    have r7 := hΦ 7 (by decide)
    simp only [ldΦ] at r5 r6 r7
    simp only [putAll, List.take_succ_cons, List.take_zero, List.drop_succ_cons, List.drop_zero, r5, r6, r7]
    simp only [Act.put]
    simp only [List.setIfInBounds_toArray, List.set_cons_succ, List.set_cons_zero]
    clear hΦ r5 r6 r7
    have k0_ := blk_ex x3 k0
    have k1_ := blk_ex x3 k1
    clear k0 k1 ek
    obtain ⟨k0, k1⟩ := And.intro k0_ k1_
    go_upto_region 8 with (first | (refine wpList_load_row rfl 34 (Operand.tmp 2) rfl q (by kernel_rfl) _ _ _ _ (blk_ex sk9 k0) Tryz.underlying34 rfl (by rw [acs]; kernel_rfl) ?_) | (go_at_call 15; refine (LT.it _ (ex_trans (ex_trans (ex_trans x1 x2) x3) sk9)).mono ?_; rintro r w4 ⟨h1, y1, rfl, x4, o1⟩) | (refine wpList_build_is rfl 95 _ rfl (scCells h1) ?hf ?_; case hf => (simp only [List.map_toArray, List.map_cons, List.map_nil]; kernel_rfl)) | (refine wpList_store_box rfl 95 (Operand.tmp 10) _ rfl w4.heap.size (scCells h1) (by simp [go_sem]) rfl _ _ (blk_new2 _ _) (by kernel_rfl) (by kernel_rfl) (scCells_1 _) ?_))
    refine name_w (fun w' => UwI w1 w' w4.heap.size h1 y1 s ∧ (∃ y, w' = plus w3 y)) ⟨⟨ex_trans (ex_trans (ex_trans x2 x3) (ex_trans sk9 x4)) (ex_row_new sk9 (Nat.le_refl _)), (o1.base (T' := w1) (size_ex (ex_trans (ex_trans x2 x3) sk9))).ex (ex_row_new sk9 (Nat.le_refl _)), blk_row_eq (blk_new2 _ _), size_ex (ex_trans (ex_trans x2 x3) (ex_trans sk9 x4))⟩, ex_trans (ex_trans sk9 x4) (ex_row_new sk9 (Nat.le_refl _))⟩ ?_
    obtain ⟨p, hp⟩ : ∃ p, w4.heap.size = p := ⟨_, rfl⟩
    try simp only [hp]
    rintro w5 ⟨U, x35⟩
    have k1_ := blk_ex x35 k1
    clear k0 k1 o1
    have k1 := k1_
    have hC := fun w' (hw : ∃ y, w' = plus w5 y) => HC.it w1 w' p h1 y1 x1 (U.on hw)
    replace hC := Hush9.mk hC
    go_upto_region 9 with (first | (refine wpList_load_row rfl 66 (Operand.tmp 3) rfl (q + 1) (by kernel_rfl) _ _ _ _ (blk_ex sk9 k1) Tryz.underlying66 rfl (by rw [ace]; kernel_rfl) ?_) | (refine (hC.it _ sk9).mono ?_; rintro r w6 ⟨rfl, x6, hu⟩) | (refine wpList_store_box rfl 36 (Operand.tmp 11) _ rfl w6.heap.size [.int .i64 A, .int .i64 B, .int .i64 C] (by simp [go_sem]) rfl _ _ (blk_new2 _ _) (by kernel_rfl) rfl (by intro v hv; simp at hv; rcases hv with rfl | rfl | rfl <;> rfl) ?_))
    refine name_w (fun w' => (∃ y, w' = plus w6 y) ∧ w'.heap[w6.heap.size]? = some (.cells #[.int .i64 A, .int .i64 B, .int .i64 C] 36)) ⟨ex_row_new sk9 (Nat.le_refl _), blk_row_eq (blk_new2 _ _)⟩ ?_
    obtain ⟨b, hb⟩ : ∃ b, w6.heap.size = b := ⟨_, rfl⟩
    try simp only [hb]
    rintro w7 ⟨x7, kb⟩
    have x17 := ex_trans x6 x7
    have k2_ := blk_ex x17 k2
    have k3_ := blk_ex x17 k3
    have hq3 := blk_lt k3
    clear k1 k2 k3 U hC
    obtain ⟨k2, k3⟩ := And.intro k2_ k3_
    clear k2_ k3_ k1_
    by_cases h0 : er = 0
    rotate_left
    · obtain ⟨rfl, rfl, rfl⟩ := her.it h0
      have d0 : (er == 0) = false := by rw [beq_eq_false_iff_ne]; exact h0
      go_wp2_with (first | (refine wpList_store_box rfl 34 (Operand.tmp 4) _ rfl (q + 2) (scCells sh0) rfl rfl _ _ (blk_ex sk9 k2) (by kernel_rfl) (by kernel_rfl) (scCells_1 _) ?_) | (refine wpList_store_box rfl 36 (Operand.tmp 5) _ rfl (q + 3) [.int .i64 0, .int .i64 0, .int .i64 0] rfl rfl _ _ (blk_row_far (blk_ex sk9 k3) (by omega)) (by kernel_rfl) rfl (by intro v hv; simp at hv; subst hv; rfl) ?_))
      exact bodyPost_ret (results_three Tryz.results9 _ _ (q + 2) (q + 3) 34 36 (scCells sh0).toArray #[.int .i64 0, .int .i64 0, .int .i64 0] _ _ (.int .i64 er) rfl rfl rfl (blk_row_far (blk_row_eq (blk_ex sk9 k2)) (by omega)) (blk_row_eq (blk_row_far (blk_ex sk9 k3) (by omega))) Tryz.underlying34 rfl (by kernel_rfl) Tryz.underlying36 rfl (by kernel_rfl)) rfl ⟨sh0, sx0, rfl, ex_row_new (ex_row_new (ex_trans x1 (ex_trans x17 sk9)) (by omega)) (by omega), fun e0 => absurd e0 h0, fun _ => ⟨rfl, rfl⟩⟩
    subst h0
    go_upto_region 11 with fail
    obtain ⟨h', x', U⟩ := hu (by first | rfl | trivial)
    have U7 := U.on x7
    have kp := U7.bx
    obtain ⟨cu, hcu⟩ : ∃ c, scCells h' = c := ⟨_, rfl⟩
    have lcu : cu.length = 7 := by rw [← hcu]; rfl
    have acu : cu.toArray.size = 7 := by simpa using lcu
    have hcu1 : ∀ v ∈ cu, v.oneCell' = true := by rw [← hcu]; exact scCells_1 h'
    rw [hcu] at kp
    have hU : ∀ j v, cu[j]? = some v → w7.cell? ⟨p, 0 + j, none⟩ = some v := fun j v hj => by rw [Nat.zero_add]; exact cell_of kp hj
    have c0 : w7.cell? ⟨b, 0, none⟩ = some (.int .i64 A) := cell_blk kb rfl
    have c1 : w7.cell? ⟨b, 1, none⟩ = some (.int .i64 B) := cell_blk kb rfl
    have c2 : w7.cell? ⟨b, 2, none⟩ = some (.int .i64 C) := cell_blk kb rfl
    have lp0 := blk_lt kp
    have lb0 := blk_lt kb
    have hhu := Hush9.mk hcu
    clear hcu
    have hgp : some p ≠ some (q + 2) := fun e => by cases e; rw [k2] at kp; cases kp
    have hgb : some b ≠ some (q + 2) := fun e => by cases e; rw [k2] at kb; cases kb
    have hgq : some (q + 3) ≠ some (q + 2) := fun e => by cases e
    refine region_relD 4 dtS (dtΦ p (q + 2) cu A B C (some (q + 2))) (TurnK 3 [] (some (q + 2))) tk_trans (tk_draw _) (by kernel_rfl) (by kernel_rfl) (by decide) (dtΦ_mono p (q + 2) cu A B C (some (q + 2))) ?steps ?fin
    case steps =>
      refine ⟨?_, ?_, ?_, ?_, trivial⟩
      · intro a D w' hg hfree hdeep hD
        have f10_ := hfree 10 (by kernel_rfl)
        simp only [dtΦ, got] at f10_
        simp [go_sem] at f10_
        unfold Oper.wp
        simp [go_sem, execOp, Act.eval, ↓IntWalk.iteOmega, f10_]
        exact ⟨_, rfl, tk_grow (by decide) (ex_refl _), by simp [dtΦ, upd]⟩
      · intro a D w' hg hfree hdeep hD
        have e9 := hdeep 0 (by kernel_rfl)
        simp only [dtΦ, got] at e9
        simp at e9
        have kq := turn_blk hg.t hgp kp
        unfold Oper.wp
        rw [exec_load_part 34 (Operand.tmp 45) rfl p 0 (by simp [Act.eval, e9]) cu _ (fun j v hj => by rw [Nat.zero_add]; exact cell_of kq hj) Tryz.underlying34 rfl (by rw [lcu]; kernel_rfl)]
        exact ⟨_, rfl, tk_grow (by decide) (ex_refl _), by simp [dtΦ, upd]⟩
      · intro a D w' hg hfree hdeep hD
        have f11_ := hfree 11 (by kernel_rfl)
        simp only [dtΦ, got] at f11_
        simp [go_sem] at f11_
        have kq := turn_blk hg.t hgb kb
        have c0 : w'.cell? ⟨b, 0, none⟩ = some (.int .i64 A) := cell_blk kq rfl
        have c1 : w'.cell? ⟨b, 1, none⟩ = some (.int .i64 B) := cell_blk kq rfl
        have c2 : w'.cell? ⟨b, 2, none⟩ = some (.int .i64 C) := cell_blk kq rfl
        unfold Oper.wp
        simp [go_sem, execOp, Act.eval, ↓IntWalk.iteOmega, f11_, c0, c1, c2]
        exact ⟨_, rfl, tk_grow (by decide) (ex_refl _), by simp [dtΦ, upd]⟩
      · intro a D w' hg hfree hdeep hD
        have f4_ := hfree 4 (by kernel_rfl)
        have e1 := hdeep 1 (by kernel_rfl)
        simp only [dtΦ, got] at e1 f4_
        simp at e1 f4_
        obtain ⟨x9, rfl⟩ := turn_ahead hg.t hD
        have k2' := blk_ex (w' := plus w7 x9) ⟨x9, rfl⟩ k2
        refine wp_store_row 34 (Operand.tmp 4) (Operand.tmp 46) rfl (q + 2) cu.toArray (by simp [Act.eval, f4_]) (by simp [Act.eval, e1]) _ _ k2' (by rw [acu]; kernel_rfl) (by rw [acu]; kernel_rfl) (Array.all_eq_true_iff_forall_mem.2 fun v hv => hcu1 v (by simpa using hv)) ?_
        exact ⟨_, rfl, tk_do row_grown10 hD (fun r hr => by cases hr), also_self' _, blk_row_eq k2'⟩
    case fin =>
      rintro t D w8 hDa hg hΦ
      have e47 := hΦ 2 (by decide)
      obtain ⟨_, k28⟩ := hΦ 3 (by decide)
      simp only [dtΦ] at e47
      have k38 := turn_blk hg.t hgq k3
      have own := U7.own.grown_ty hg.t.grow k2 (by decide)
      have x78 := turn_ex hg.t (ex_trans x1 x17) (fun k e => by cases e; omega)
      simp only [putAll, List.take_succ_cons, List.take_zero, List.drop_succ_cons, List.drop_zero, e47]
      simp only [Act.put]
      simp only [List.setIfInBounds_toArray, List.set_cons_succ, List.set_cons_zero]
      clear hΦ e47 hg hDa k2 k3 kb kp
      go_wp2_with (refine wpList_store_box rfl 36 (Operand.tmp 5) _ rfl (q + 3) [.int .i64 A, .int .i64 B, .int .i64 C] rfl rfl _ _ (blk_ex sk9 k38) (by kernel_rfl) rfl (by intro v hv; simp at hv; rcases hv with rfl | rfl | rfl <;> rfl) ?_)
      exact bodyPost_ret (results_three Tryz.results9 _ _ (q + 2) (q + 3) 34 36 cu.toArray #[.int .i64 A, .int .i64 B, .int .i64 C] _ _ (.int .i64 0) rfl rfl rfl (blk_row_far (blk_ex sk9 k28) (by omega)) (blk_row_eq (blk_ex sk9 k38)) Tryz.underlying34 rfl (by rw [acu]; kernel_rfl) Tryz.underlying36 rfl (by kernel_rfl)) rfl ⟨h', x', by rw [hhu.it], ex_row_new (ex_trans x78 sk9) (by omega), fun _ => ((own.ex sk9).row_out (by omega)).base (size_ex x1), fun e0 => absurd rfl e0⟩

end

section


open Go.RowKit Go.ChangeShapes Go.WideShapes Go.ChangeAt

set_option linter.unusedSimpArgs false

set_option linter.unusedVariables false

attribute [local go_sem] plus_size plus_drew dn_set dn_alloc dn_plus plus_dn cell_plus frozen_plus set_plus cell_alloc frozen_alloc set_alloc

set_option maxHeartbeats 4000000 in
theorem do_calls {h : SH} {x : SX} {s : Sc} {e : EH} {ps : List PH} {n : Nd} {m : Ms} {t : Tp} {w : World} (hA : ScAt w h x s) (hE : EditAt w e ps n m t) (hfar : e.nd.n ≤ 10000) :
    Calls Tryz.prog 9 #[.agg (scCells h).toArray, .agg (fE e).toArray] w fun r w' => RetDo w s (toEd e n m t) r w' := by
  cases hm : maySc s
  · exact do_not hA hm
  by_cases hb : e.kind < 1 ∨ 8 < e.kind
  · exact do_bad hA hm hb
  have hk : e.kind = 1 ∨ e.kind = 2 ∨ e.kind = 3 ∨ e.kind = 4 ∨ e.kind = 5 ∨ e.kind = 6 ∨ e.kind = 7 ∨ e.kind = 8 := by omega
  have hde : doErr s (toEd e n m t) = edErr s (toEd e n m t) := by rw [doErr, hm, if_pos rfl]
  have her : doErr s (toEd e n m t) ≠ 0 → (tookH s (toEd e n m t)).1 = 0 ∧ (tookH s (toEd e n m t)).2 = 0 ∧ tookN s (toEd e n m t) = 0 := fun h0 => by
    obtain ⟨_, h2, h3⟩ := do_refused rfl h0
    rw [h2, h3]
    exact ⟨rfl, rfl, rfl⟩
  have fin : ∀ r w', RetDx w (edSc s (toEd e n m t)) (tookH s (toEd e n m t)).1 (tookH s (toEd e n m t)).2 (tookN s (toEd e n m t)) (doErr s (toEd e n m t)) r w' → RetDo w s (toEd e n m t) r w' := by
    rintro r w' ⟨h', x', e0, hw, h1, h2⟩
    refine ⟨h', x', e0, hw, ?_⟩
    by_cases hz : doErr s (toEd e n m t) = 0
    · rw [doSc, if_pos hz]
      exact h1 hz
    · obtain ⟨rfl, rfl⟩ := h2 hz
      rw [(do_refused rfl hz).1]
      exact sc_own0
  rcases hk with k1 | k2 | k3 | k4 | k5 | k6 | k7 | k8
  · have q1 : (tookH s (toEd e n m t)).1 = (if edErr s (toEd e n m t) = 0 then mkSlot s.g.sl else 0) := (by first | (rw [tookH, hde]; simp [toEd, k1]; done) | (rw [tookH, hde]; by_cases h0 : edErr s (toEd e n m t) = 0 <;> simp [h0]; simp [toEd, k1]; done) | (rw [tookN, hde]; simp [toEd, k1]; done) | (rw [tookN, hde, placeV]; simp only [edErr, toEd, k1]; rfl))
    have q2 : (tookH s (toEd e n m t)).2 = (if edErr s (toEd e n m t) = 0 then mkGen s.g.sl else 0) := (by first | (rw [tookH, hde]; simp [toEd, k1]; done) | (rw [tookH, hde]; by_cases h0 : edErr s (toEd e n m t) = 0 <;> simp [h0]; simp [toEd, k1]; done) | (rw [tookN, hde]; simp [toEd, k1]; done) | (rw [tookN, hde, placeV]; simp only [edErr, toEd, k1]; rfl))
    have q3 : tookN s (toEd e n m t) = 0 := (by first | (rw [tookH, hde]; simp [toEd, k1]; done) | (rw [tookH, hde]; by_cases h0 : edErr s (toEd e n m t) = 0 <;> simp [h0]; simp [toEd, k1]; done) | (rw [tookN, hde]; simp [toEd, k1]; done) | (rw [tookN, hde, placeV]; simp only [edErr, toEd, k1]; rfl))
    refine (do_via hA hm k1 rfl (fun _ _ => by kernel_rfl) (S := edSc s (toEd e n m t)) her (fun T w' p h1 x1 hT U => ?_)).mono fin
    rw [q1, q2, q3, hde]
    exact makeNode_calls U hm e ps n m t (hE.ex hT) hfar k1
  · have q1 : (tookH s (toEd e n m t)).1 = 0 := (by first | (rw [tookH, hde]; simp [toEd, k2]; done) | (rw [tookH, hde]; by_cases h0 : edErr s (toEd e n m t) = 0 <;> simp [h0]; simp [toEd, k2]; done) | (rw [tookN, hde]; simp [toEd, k2]; done) | (rw [tookN, hde, placeV]; simp only [edErr, toEd, k2]; rfl))
    have q2 : (tookH s (toEd e n m t)).2 = 0 := (by first | (rw [tookH, hde]; simp [toEd, k2]; done) | (rw [tookH, hde]; by_cases h0 : edErr s (toEd e n m t) = 0 <;> simp [h0]; simp [toEd, k2]; done) | (rw [tookN, hde]; simp [toEd, k2]; done) | (rw [tookN, hde, placeV]; simp only [edErr, toEd, k2]; rfl))
    have q3 : tookN s (toEd e n m t) = 0 := (by first | (rw [tookH, hde]; simp [toEd, k2]; done) | (rw [tookH, hde]; by_cases h0 : edErr s (toEd e n m t) = 0 <;> simp [h0]; simp [toEd, k2]; done) | (rw [tookN, hde]; simp [toEd, k2]; done) | (rw [tookN, hde, placeV]; simp only [edErr, toEd, k2]; rfl))
    refine (do_via hA hm k2 rfl (fun _ _ => by kernel_rfl) (S := edSc s (toEd e n m t)) her (fun T w' p h1 x1 hT U => ?_)).mono fin
    rw [q1, q2, q3, hde]
    exact setNode_calls U hm e ps n m t (hE.ex (ex_trans hT U.ex)) hfar k2
  · have q1 : (tookH s (toEd e n m t)).1 = 0 := (by first | (rw [tookH, hde]; simp [toEd, k3]; done) | (rw [tookH, hde]; by_cases h0 : edErr s (toEd e n m t) = 0 <;> simp [h0]; simp [toEd, k3]; done) | (rw [tookN, hde]; simp [toEd, k3]; done) | (rw [tookN, hde, placeV]; simp only [edErr, toEd, k3]; rfl))
    have q2 : (tookH s (toEd e n m t)).2 = 0 := (by first | (rw [tookH, hde]; simp [toEd, k3]; done) | (rw [tookH, hde]; by_cases h0 : edErr s (toEd e n m t) = 0 <;> simp [h0]; simp [toEd, k3]; done) | (rw [tookN, hde]; simp [toEd, k3]; done) | (rw [tookN, hde, placeV]; simp only [edErr, toEd, k3]; rfl))
    have q3 : tookN s (toEd e n m t) = 0 := (by first | (rw [tookH, hde]; simp [toEd, k3]; done) | (rw [tookH, hde]; by_cases h0 : edErr s (toEd e n m t) = 0 <;> simp [h0]; simp [toEd, k3]; done) | (rw [tookN, hde]; simp [toEd, k3]; done) | (rw [tookN, hde, placeV]; simp only [edErr, toEd, k3]; rfl))
    refine (do_via hA hm k3 rfl (fun _ _ => by kernel_rfl) (S := edSc s (toEd e n m t)) her (fun T w' p h1 x1 hT U => ?_)).mono fin
    rw [q1, q2, q3, hde]
    exact link_calls U hm e n m t k3
  · have q1 : (tookH s (toEd e n m t)).1 = 0 := (by first | (rw [tookH, hde]; simp [toEd, k4]; done) | (rw [tookH, hde]; by_cases h0 : edErr s (toEd e n m t) = 0 <;> simp [h0]; simp [toEd, k4]; done) | (rw [tookN, hde]; simp [toEd, k4]; done) | (rw [tookN, hde, placeV]; simp only [edErr, toEd, k4]; rfl))
    have q2 : (tookH s (toEd e n m t)).2 = 0 := (by first | (rw [tookH, hde]; simp [toEd, k4]; done) | (rw [tookH, hde]; by_cases h0 : edErr s (toEd e n m t) = 0 <;> simp [h0]; simp [toEd, k4]; done) | (rw [tookN, hde]; simp [toEd, k4]; done) | (rw [tookN, hde, placeV]; simp only [edErr, toEd, k4]; rfl))
    have q3 : tookN s (toEd e n m t) = 0 := (by first | (rw [tookH, hde]; simp [toEd, k4]; done) | (rw [tookH, hde]; by_cases h0 : edErr s (toEd e n m t) = 0 <;> simp [h0]; simp [toEd, k4]; done) | (rw [tookN, hde]; simp [toEd, k4]; done) | (rw [tookN, hde, placeV]; simp only [edErr, toEd, k4]; rfl))
    refine (do_via hA hm k4 rfl (fun _ _ => by kernel_rfl) (S := edSc s (toEd e n m t)) her (fun T w' p h1 x1 hT U => ?_)).mono fin
    rw [q1, q2, q3, hde]
    exact unlink_calls U hm e n m t k4
  · have q1 : (tookH s (toEd e n m t)).1 = 0 := (by first | (rw [tookH, hde]; simp [toEd, k5]; done) | (rw [tookH, hde]; by_cases h0 : edErr s (toEd e n m t) = 0 <;> simp [h0]; simp [toEd, k5]; done) | (rw [tookN, hde]; simp [toEd, k5]; done) | (rw [tookN, hde, placeV]; simp only [edErr, toEd, k5]; rfl))
    have q2 : (tookH s (toEd e n m t)).2 = 0 := (by first | (rw [tookH, hde]; simp [toEd, k5]; done) | (rw [tookH, hde]; by_cases h0 : edErr s (toEd e n m t) = 0 <;> simp [h0]; simp [toEd, k5]; done) | (rw [tookN, hde]; simp [toEd, k5]; done) | (rw [tookN, hde, placeV]; simp only [edErr, toEd, k5]; rfl))
    have q3 : tookN s (toEd e n m t) = 0 := (by first | (rw [tookH, hde]; simp [toEd, k5]; done) | (rw [tookH, hde]; by_cases h0 : edErr s (toEd e n m t) = 0 <;> simp [h0]; simp [toEd, k5]; done) | (rw [tookN, hde]; simp [toEd, k5]; done) | (rw [tookN, hde, placeV]; simp only [edErr, toEd, k5]; rfl))
    refine (do_via hA hm k5 rfl (fun _ _ => by kernel_rfl) (S := edSc s (toEd e n m t)) her (fun T w' p h1 x1 hT U => ?_)).mono fin
    rw [q1, q2, q3, hde]
    exact kill_calls U hm e n m t k5
  · have q1 : (tookH s (toEd e n m t)).1 = 0 := (by first | (rw [tookH, hde]; simp [toEd, k6]; done) | (rw [tookH, hde]; by_cases h0 : edErr s (toEd e n m t) = 0 <;> simp [h0]; simp [toEd, k6]; done) | (rw [tookN, hde]; simp [toEd, k6]; done) | (rw [tookN, hde, placeV]; simp only [edErr, toEd, k6]; rfl))
    have q2 : (tookH s (toEd e n m t)).2 = 0 := (by first | (rw [tookH, hde]; simp [toEd, k6]; done) | (rw [tookH, hde]; by_cases h0 : edErr s (toEd e n m t) = 0 <;> simp [h0]; simp [toEd, k6]; done) | (rw [tookN, hde]; simp [toEd, k6]; done) | (rw [tookN, hde, placeV]; simp only [edErr, toEd, k6]; rfl))
    have q3 : tookN s (toEd e n m t) = placeV e.at' s.ms.length 32 (msErr m) := (by first | (rw [tookH, hde]; simp [toEd, k6]; done) | (rw [tookH, hde]; by_cases h0 : edErr s (toEd e n m t) = 0 <;> simp [h0]; simp [toEd, k6]; done) | (rw [tookN, hde]; simp [toEd, k6]; done) | (rw [tookN, hde, placeV]; simp only [edErr, toEd, k6]; rfl))
    refine (do_via hA hm k6 rfl (fun _ _ => by kernel_rfl) (S := edSc s (toEd e n m t)) her (fun T w' p h1 x1 hT U => ?_)).mono fin
    rw [q1, q2, q3, hde]
    exact putMesh_calls U hm e ps n m t (hE.ex (ex_trans hT U.ex)) k6
  · have q1 : (tookH s (toEd e n m t)).1 = 0 := (by first | (rw [tookH, hde]; simp [toEd, k7]; done) | (rw [tookH, hde]; by_cases h0 : edErr s (toEd e n m t) = 0 <;> simp [h0]; simp [toEd, k7]; done) | (rw [tookN, hde]; simp [toEd, k7]; done) | (rw [tookN, hde, placeV]; simp only [edErr, toEd, k7]; rfl))
    have q2 : (tookH s (toEd e n m t)).2 = 0 := (by first | (rw [tookH, hde]; simp [toEd, k7]; done) | (rw [tookH, hde]; by_cases h0 : edErr s (toEd e n m t) = 0 <;> simp [h0]; simp [toEd, k7]; done) | (rw [tookN, hde]; simp [toEd, k7]; done) | (rw [tookN, hde, placeV]; simp only [edErr, toEd, k7]; rfl))
    have q3 : tookN s (toEd e n m t) = placeV e.at' s.ts.length 16 (texErr t) := (by first | (rw [tookH, hde]; simp [toEd, k7]; done) | (rw [tookH, hde]; by_cases h0 : edErr s (toEd e n m t) = 0 <;> simp [h0]; simp [toEd, k7]; done) | (rw [tookN, hde]; simp [toEd, k7]; done) | (rw [tookN, hde, placeV]; simp only [edErr, toEd, k7]; rfl))
    refine (do_via hA hm k7 rfl (fun _ _ => by kernel_rfl) (S := edSc s (toEd e n m t)) her (fun T w' p h1 x1 hT U => ?_)).mono fin
    rw [q1, q2, q3, hde]
    exact putTex_calls U hm e ps n m t (hE.ex (ex_trans hT U.ex)) k7
  · have q1 : (tookH s (toEd e n m t)).1 = 0 := (by first | (rw [tookH, hde]; simp [toEd, k8]; done) | (rw [tookH, hde]; by_cases h0 : edErr s (toEd e n m t) = 0 <;> simp [h0]; simp [toEd, k8]; done) | (rw [tookN, hde]; simp [toEd, k8]; done) | (rw [tookN, hde, placeV]; simp only [edErr, toEd, k8]; rfl))
    have q2 : (tookH s (toEd e n m t)).2 = 0 := (by first | (rw [tookH, hde]; simp [toEd, k8]; done) | (rw [tookH, hde]; by_cases h0 : edErr s (toEd e n m t) = 0 <;> simp [h0]; simp [toEd, k8]; done) | (rw [tookN, hde]; simp [toEd, k8]; done) | (rw [tookN, hde, placeV]; simp only [edErr, toEd, k8]; rfl))
    have q3 : tookN s (toEd e n m t) = 0 := (by first | (rw [tookH, hde]; simp [toEd, k8]; done) | (rw [tookH, hde]; by_cases h0 : edErr s (toEd e n m t) = 0 <;> simp [h0]; simp [toEd, k8]; done) | (rw [tookN, hde]; simp [toEd, k8]; done) | (rw [tookN, hde, placeV]; simp only [edErr, toEd, k8]; rfl))
    refine (do_via hA hm k8 rfl (fun _ _ => by kernel_rfl) (S := edSc s (toEd e n m t)) her (fun T w' p h1 x1 hT U => ?_)).mono fin
    rw [q1, q2, q3, hde]
    exact setRoot_calls U hm e n m t k8

end

section


open Go.RowKit Go.ChangeShapes Go.WideShapes Go.ChangeAt

set_option linter.unusedSimpArgs false

set_option linter.unusedVariables false

attribute [local go_sem] plus_size plus_drew dn_set dn_alloc dn_plus plus_dn cell_plus frozen_plus set_plus cell_alloc frozen_alloc set_alloc

theorem blk_new3 (w : World) (o o' : Obj) : ((w.alloc o).alloc o').heap[w.heap.size + 1]? = some o' := by rw [← size_alloc w o]; exact blk_new2 _ _

def kN (kd : Int) : NH := ⟨⟨kd, zeroM, 0, zeroV, 0, sy0⟩, none, 0, 0⟩

def kNd (kd : Int) : Nd := ⟨⟨kd, zeroM, 0, zeroV, 0, sy0⟩, []⟩

theorem kN_at {w : World} {kd : Int} (h : 0 ≤ kd ∧ kd ≤ 255) : NodeAt w (kN kd) (kNd kd) := ⟨rfl, ⟨h, (nd0_at w).b.on, (nd0_at w).b.sty⟩, Nat.zero_le _, Nat.le_refl _, fun _ => ⟨rfl, rfl⟩, Lay.nil⟩

def eK (kd h0 h1 c0 c1 p : Int) (nd : NH) : EH := ⟨kd, h0, h1, c0, c1, p, nd, mh0, th0⟩

def edK (kd h0 h1 c0 c1 p : Int) (n : Nd) : Ed := ⟨kd, (h0, h1), (c0, c1), p, n, ms0, tp0⟩

theorem mesh0_at {w : World} : MeshAt w mh0 [] ms0 := ⟨by decide, by decide, by decide, fun _ => ⟨rfl, rfl⟩, fun _ => ⟨rfl, rfl⟩, fun _ => ⟨rfl, rfl⟩, Lay.nil, Lay.nil, Lay.nil, ⟨rfl, fun k hk => by simp at hk⟩⟩

theorem tex0_at {w : World} : TexAt w th0 tp0 := (TexOwn.at (T := w) ⟨rfl, rfl, own_nil, fun k hk => by simp [tp0] at hk⟩ (Nat.zero_le _))

theorem eK_at {w : World} {kd h0 h1 c0 c1 p : Int} {nd : NH} {n : Nd} (hk : 0 ≤ kd ∧ kd ≤ 255) (hN : NodeAt w nd n) : EditAt w (eK kd h0 h1 c0 c1 p nd) [] n ms0 tp0 := ⟨hk, hN, mesh0_at, tex0_at⟩

structure DoV (w1 : World) (c c' : List Value) (A B C er : Int) (S : Sc) : Prop where
  it : ∀ w', (∃ y, w' = plus w1 y) → Calls Tryz.prog 9 #[.agg c.toArray, .agg c'.toArray] w' fun r w'' => ∃ h' x', r = .returned (.tuple #[.agg (scCells h').toArray, .agg #[.int .i64 A, .int .i64 B, .int .i64 C], .int .i64 er]) ∧ (∃ y, w'' = plus w' y) ∧ ScOwn w' w'' h' x' S

theorem do_v {h : SH} {x : SX} {s : Sc} {e : EH} {ps : List PH} {n : Nd} {m : Ms} {t : Tp} {w : World} (hA : ScAt w h x s) (hE : EditAt w e ps n m t) (hfar : e.nd.n ≤ 10000) {A B C er : Int} {S : Sc} (h1 : tookH s (toEd e n m t) = (A, B)) (h2 : tookN s (toEd e n m t) = C) (h3 : doErr s (toEd e n m t) = er) (h4 : doSc s (toEd e n m t) = S) : DoV w (scCells h) (fE e) A B C er S :=
  ⟨fun w' hw => (do_calls (hA.ex hw) (hE.ex hw) hfar).mono (by
    rintro r w'' ⟨h', x', e0, hx, ho⟩
    rw [tookV, h1, h2, h3] at e0
    rw [h4] at ho
    exact ⟨h', x', e0, hx, ho⟩)⟩

theorem sc0_at {w : World} : ScAt w sh0 sx0 sc0 := (sc_own0 (T := w)).at ⟨by decide, by decide, fun k hk => by simp [sc0] at hk, by decide, by decide, by decide, fun k hk => by simp [sc0] at hk, fun k hk => by simp [sc0] at hk, fun k hk => by simp [sc0] at hk⟩

def grpE : EH := eK 1 0 0 0 0 0 (kN 1)

def grpD : Ed := edK 1 0 0 0 0 0 (kNd 1)

def sc1 : Sc := ⟨⟨[⟨1, true⟩], [[]]⟩, [kNd 1], [], [], (0, 0)⟩

set_option maxRecDepth 100000 in
theorem sc1_is : doErr sc0 grpD = 0 ∧ tookH sc0 grpD = (0, 1) ∧ tookN sc0 grpD = 0 ∧ doSc sc0 grpD = sc1 ∧ maySc sc1 = true := ⟨by kernel_rfl, by kernel_rfl, by kernel_rfl, by kernel_rfl, by kernel_rfl⟩

set_option maxRecDepth 100000 in
theorem sc1_no : doErr sc1 (edK 1 0 0 0 0 0 nd0) = 8 ∧ doErr sc1 (edK 1 0 0 0 0 0 (kNd 5)) = 8 := ⟨by kernel_rfl, by kernel_rfl⟩

theorem fE_1 (e : EH) : ∀ u ∈ fE e, u.oneCell' = true := by
  intro u hu
  simp only [fE, List.mem_cons, List.mem_append] at hu
  rcases hu with rfl | rfl | rfl | rfl | rfl | rfl | hu | hu | hu
  all_goals first | rfl | exact fN_1 _ u hu | exact fMh_1 _ u hu | exact fTh_1 _ u hu

set_option maxHeartbeats 2000000 in
theorem group_calls (w : World) : Calls Tryz.prog 10 #[] w fun e w' => e = .returned (.agg (fE grpE).toArray) ∧ ∃ y, w' = plus w y := by
  go_enter Tryz.func10, Tryz.ntmps10
  go_upto_region 1 with fail
  refine name_w (fun w' => (∃ y, w' = plus w y) ∧ w'.heap[w.heap.size]? = some (.cells (fE (eK 0 0 0 0 0 0 nh0)).toArray 66)) ⟨sk9, blk_new2 _ _⟩ ?_
  obtain ⟨b, hb⟩ : ∃ b, w.heap.size = b := ⟨_, rfl⟩
  try simp only [hb]
  rintro w1 ⟨x1, k1⟩
  go_wp2_with (first | (refine wpList_build_is rfl 56 _ rfl (fN (kN 1)) ?hf ?_; case hf => (simp only [List.map_toArray, List.map_cons, List.map_nil]; kernel_rfl)) | (refine wpList_build_is rfl 66 _ rfl (fE grpE) ?hf ?_; case hf => (simp only [List.map_toArray, List.map_cons, List.map_nil]; kernel_rfl)) | (refine wpList_store_box rfl 66 (Operand.tmp 0) _ rfl b (fE grpE) rfl rfl _ _ k1 (by kernel_rfl) (by kernel_rfl) (fE_1 _) ?_))
  exact bodyPost_ret (v := .agg (fE grpE).toArray) (results_cell_row Tryz.results10 _ _ b 66 _ _ _ rfl (blk_row_eq k1) Tryz.underlying66 rfl (by kernel_rfl)) rfl ⟨rfl, ex_row_new x1 (by omega)⟩

set_option maxRecDepth 100000 in
set_option maxHeartbeats 8000000 in
theorem alive_calls (w : World) : Calls Tryz.prog 11 #[] w fun e w' => e = .returned (.bool true) ∧ ∃ y, w' = plus w y := by
  obtain ⟨s1, s2, s3, s4, s5⟩ := sc1_is
  obtain ⟨n1, n2⟩ := sc1_no
  have D1 : DoV w (scCells sh0) (fE grpE) 0 1 0 0 sc1 := do_v sc0_at (eK_at (by decide) (kN_at (by decide))) (by decide) s2 s3 s1 s4
  have few := few_may s5
  go_enter Tryz.func11, Tryz.ntmps11
  go_upto_region 2 with (first | (go_at_call 10; refine (group_calls _).mono ?_; rintro e w' ⟨rfl, nx, rfl⟩) | (go_at_call 9; refine (D1.it _ (sk9)).mono ?_; rintro r w1 ⟨h1, y1, rfl, x1, o1⟩) | (refine wpList_store_box rfl 34 (Operand.tmp 1) _ rfl w1.heap.size (scCells h1) (by simp [go_sem]) rfl 34 (scCells sh0).toArray (by exact blk_old (blk_new2 _ _)) (by kernel_rfl) (by kernel_rfl) (scCells_1 _) ?_) | (refine wpList_store_box rfl 36 (Operand.tmp 2) _ rfl (w1.heap.size + 1) [.int .i64 0, .int .i64 1, .int .i64 0] (by simp [go_sem]) rfl 36 #[.int .i64 0, .int .i64 0, .int .i64 0] (by exact blk_row_far (blk_new3 _ _ _) (by omega)) (by kernel_rfl) rfl (by intro v hv; simp at hv; rcases hv with rfl | rfl | rfl <;> rfl) ?_))
  refine name_w (fun w' => (∃ y, w' = plus w1 y) ∧ w'.heap[w1.heap.size]? = some (.cells (scCells h1).toArray 34) ∧ w'.heap[w1.heap.size + 1]? = some (.cells #[.int .i64 0, .int .i64 1, .int .i64 0] 36)) ⟨ex_row_new (ex_row_new sk9 (Nat.le_refl _)) (Nat.le_succ _), blk_row_far (blk_row_eq (blk_old (blk_new2 _ _))) (by omega), blk_row_eq (blk_row_far (blk_new3 _ _ _) (by omega))⟩ ?_
  obtain ⟨b1, hb1⟩ : ∃ b, w1.heap.size = b := ⟨_, rfl⟩
  try simp only [hb1]
  rintro v1 ⟨z1, p1, q1⟩
  have A1 := (o1.at few).ex z1
  have D2 : DoV v1 (scCells h1) (fE (eK 1 0 0 0 0 0 nh0)) 0 0 0 8 sc0 := do_v A1 (eK_at (by decide) (nd0_at _)) (by decide) (do_refused n1 (by decide)).2.1 (do_refused n1 (by decide)).2.2 n1 (do_refused n1 (by decide)).1
  have D3 : DoV v1 (scCells h1) (fE (eK 1 0 0 0 0 0 (kN 5))) 0 0 0 8 sc0 := do_v A1 (eK_at (by decide) (kN_at (by decide))) (by decide) (do_refused n2 (by decide)).2.1 (do_refused n2 (by decide)).2.2 n2 (do_refused n2 (by decide)).1
  go_upto_region 3 with (first | (refine wpList_load_row rfl 34 (Operand.tmp 1) rfl b1 (by kernel_rfl) _ _ _ _ (blk_ex sk9 p1) Tryz.underlying34 rfl (by kernel_rfl) ?_) | (refine wpList_build_is rfl 66 _ rfl (fE (eK 1 0 0 0 0 0 nh0)) ?hf ?_; case hf => (simp only [List.map_toArray, List.map_cons, List.map_nil]; kernel_rfl)) | (go_at_call 9; refine (D2.it _ (sk9)).mono ?_; rintro r w2 ⟨h2, y2, rfl, x2, o2⟩) | (refine wpList_store_box rfl 34 (Operand.tmp 4) _ rfl w2.heap.size (scCells h2) (by simp [go_sem]) rfl 34 (scCells sh0).toArray (by exact blk_old (blk_new2 _ _)) (by kernel_rfl) (by kernel_rfl) (scCells_1 _) ?_) | (refine wpList_store_box rfl 36 (Operand.tmp 5) _ rfl (w2.heap.size + 1) [.int .i64 0, .int .i64 0, .int .i64 0] (by simp [go_sem]) rfl 36 #[.int .i64 0, .int .i64 0, .int .i64 0] (by exact blk_row_far (blk_new3 _ _ _) (by omega)) (by kernel_rfl) rfl (by intro v hv; simp at hv; rcases hv with rfl | rfl | rfl <;> rfl) ?_))
  refine name_w (fun w' => (∃ y, w' = plus w2 y) ∧ w'.heap[w2.heap.size]? = some (.cells (scCells h2).toArray 34) ∧ w'.heap[w2.heap.size + 1]? = some (.cells #[.int .i64 0, .int .i64 0, .int .i64 0] 36)) ⟨ex_row_new (ex_row_new sk9 (Nat.le_refl _)) (Nat.le_succ _), blk_row_far (blk_row_eq (blk_old (blk_new2 _ _))) (by omega), blk_row_eq (blk_row_far (blk_new3 _ _ _) (by omega))⟩ ?_
  obtain ⟨b2, hb2⟩ : ∃ b, w2.heap.size = b := ⟨_, rfl⟩
  try simp only [hb2]
  rintro v2 ⟨z2, p2, q2⟩
  have xx2 := ex_trans x2 z2
  have p12 := blk_ex xx2 p1
  go_upto_region 4 with (first | (refine wpList_load_row rfl 34 (Operand.tmp 1) rfl b1 (by kernel_rfl) _ _ _ _ (blk_ex sk9 p12) Tryz.underlying34 rfl (by kernel_rfl) ?_) | (refine wpList_build_is rfl 56 _ rfl (fN (kN 5)) ?hf ?_; case hf => (simp only [List.map_toArray, List.map_cons, List.map_nil]; kernel_rfl)) | (refine wpList_build_is rfl 66 _ rfl (fE (eK 1 0 0 0 0 0 (kN 5))) ?hf ?_; case hf => (simp only [List.map_toArray, List.map_cons, List.map_nil]; kernel_rfl)) | (go_at_call 9; refine (D3.it _ (ex_trans xx2 sk9)).mono ?_; rintro r w3 ⟨h3, y3, rfl, x3, o3⟩) | (refine wpList_store_box rfl 34 (Operand.tmp 7) _ rfl w3.heap.size (scCells h3) (by simp [go_sem]) rfl 34 (scCells sh0).toArray (by exact blk_old (blk_new2 _ _)) (by kernel_rfl) (by kernel_rfl) (scCells_1 _) ?_) | (refine wpList_store_box rfl 36 (Operand.tmp 8) _ rfl (w3.heap.size + 1) [.int .i64 0, .int .i64 0, .int .i64 0] (by simp [go_sem]) rfl 36 #[.int .i64 0, .int .i64 0, .int .i64 0] (by exact blk_row_far (blk_new3 _ _ _) (by omega)) (by kernel_rfl) rfl (by intro v hv; simp at hv; rcases hv with rfl | rfl | rfl <;> rfl) ?_))
  refine name_w (fun w' => (∃ y, w' = plus w3 y) ∧ w'.heap[w3.heap.size]? = some (.cells (scCells h3).toArray 34) ∧ w'.heap[w3.heap.size + 1]? = some (.cells #[.int .i64 0, .int .i64 0, .int .i64 0] 36)) ⟨ex_row_new (ex_row_new sk9 (Nat.le_refl _)) (Nat.le_succ _), blk_row_far (blk_row_eq (blk_old (blk_new2 _ _))) (by omega), blk_row_eq (blk_row_far (blk_new3 _ _ _) (by omega))⟩ ?_
  obtain ⟨b3, hb3⟩ : ∃ b, w3.heap.size = b := ⟨_, rfl⟩
  try simp only [hb3]
  rintro v3 ⟨z3, p3, q3⟩
  have xx3 := ex_trans x3 z3
  have q13 := blk_ex (ex_trans xx2 xx3) q1
  have c0 : v3.cell? ⟨b1 + 1, 0, none⟩ = some (.int .i64 0) := cell_blk q13 rfl
  have c1 : v3.cell? ⟨b1 + 1, 1, none⟩ = some (.int .i64 1) := cell_blk q13 rfl
  have lq := blk_lt q13
  go_wp2
  go_ret
  exact ⟨rfl, ex_trans (ex_trans (ex_trans sk9 x1) z1) (ex_trans (ex_trans xx2 xx3) sk9)⟩

end

section


open Go.RowKit

theorem mkList_at {l : List Sl} {i : Nat} (h : i ≠ freeAt l) : nth dSl (mkList l) i = nth dSl l i := by
  have hf := freeAt_le l
  unfold mkList
  split
  · rename_i h1
    rw [nth_set' h1, if_neg h]
  · by_cases hi : i < l.length
    · rw [nth_append_left hi]
    · rw [nth_ge (l := l) (by omega), nth_ge (by simp; omega)]

theorem killList_at {l : List Sl} {s : Int} {i : Nat} (h : i ≠ s.toNat) : nth dSl (killList l s) i = nth dSl l i := by
  unfold killList
  by_cases hs : s.toNat < l.length
  · rw [nth_set' hs, if_neg h]
  · rw [List.set_eq_of_length_le (by omega)]

theorem nth_set_ne {α : Type} {d x : α} {l : List α} {k j : Nat} (h : j ≠ k) : nth d (l.set k x) j = nth d l j := by
  by_cases hk : k < l.length
  · rw [nth_set' hk, if_neg h]
  · rw [List.set_eq_of_length_le (by omega)]

theorem putAt_ne {α : Type} {d x : α} {l : List α} {k j : Nat} (hk : k ≤ l.length) (h : j ≠ k) : nth d (putAt l k x) j = nth d l j := by rw [nth_putAt hk, if_neg h]

def touched (s : Sc) (e : Ed) : Int := if e.kind = 6 ∨ e.kind = 7 ∨ e.kind = 8 then -1 else if e.kind = 1 then mkSlot s.g.sl else e.h.1

structure Touch (s a : Sc) (e : Ed) : Prop where
  nl : s.ns.length ≤ a.ns.length
  kl : s.ns.length ≤ a.g.ks.length
  sl : s.ns.length ≤ a.g.sl.length
  n : ∀ i : Nat, i < s.ns.length → (i : Int) ≠ touched s e → nth nd0 a.ns i = nth nd0 s.ns i
  v : ∀ i : Nat, i < s.ns.length → (i : Int) ≠ touched s e → nth dSl a.g.sl i = nth dSl s.g.sl i
  k : ∀ i : Nat, i < s.ns.length → (i : Int) ≠ touched s e → e.kind ≠ 5 → nth [] a.g.ks i = nth [] s.g.ks i
  st : e.kind ≠ 6 → e.kind ≠ 7 → a.ms = s.ms ∧ a.ts = s.ts
  rn : e.kind = 6 ∨ e.kind = 7 → a.root = s.root ∧ a.ns.length = s.ns.length
  ml : s.ms.length ≤ a.ms.length
  tl : s.ts.length ≤ a.ts.length
  m : ∀ i : Nat, i < s.ms.length → (e.kind ≠ 6 ∨ (i : Int) ≠ placeAt e.p s.ms.length) → nth ms0 a.ms i = nth ms0 s.ms i
  t : ∀ i : Nat, i < s.ts.length → (e.kind ≠ 7 ∨ (i : Int) ≠ placeAt e.p s.ts.length) → nth tp0 a.ts i = nth tp0 s.ts i

theorem ed_kinds {s : Sc} {e : Ed} (he : edErr s e = 0) : e.kind = 1 ∨ e.kind = 2 ∨ e.kind = 3 ∨ e.kind = 4 ∨ e.kind = 5 ∨ e.kind = 6 ∨ e.kind = 7 ∨ e.kind = 8 := by
  refine Classical.byContradiction fun h => ?_
  simp only [not_or] at h
  obtain ⟨h1, h2, h3, h4, h5, h6, h7, h8⟩ := h
  unfold edErr at he
  rw [if_neg h1, if_neg h2, if_neg h3, if_neg h4, if_neg h5, if_neg h6, if_neg h7, if_neg h8] at he
  cases he

theorem touch {s : Sc} {e : Ed} (h : maySc s = true) (he : edErr s e = 0) : Touch s (edSc s e) e := by
  obtain ⟨hg, hl, hst, hn, hr⟩ := may_parts h
  obtain ⟨g1, g2, g3, g4⟩ := gr_parts hg
  rcases ed_kinds he with k | k | k | k | k | k | k | k
  · have hs : edSc s e = ⟨makeG s.g, putAt s.ns (freeAt s.g.sl) e.n, s.ms, s.ts, s.root⟩ := by simp [edSc, k]
    have hsl : touched s e = mkSlot s.g.sl := by simp [touched, k]
    have hf := freeAt_le s.g.sl
    have hml := mkList_len s.g.sl
    have hkl : s.ns.length ≤ (makeG s.g).ks.length := by
      show s.ns.length ≤ (if s.g.ks.length < (mkList s.g.sl).length then s.g.ks ++ [[]] else s.g.ks).length
      split
      · rw [List.length_append]; omega
      · omega
    rw [hs]
    refine ⟨by show _ ≤ (putAt _ _ _).length; rw [putAt_len]; split <;> omega, hkl, by show _ ≤ (mkList s.g.sl).length; rw [hml]; split <;> omega, fun i hi hne => ?_, fun i hi hne => ?_, fun i hi hne _ => makeG_row _ _, fun _ _ => ⟨rfl, rfl⟩, fun e0 => by omega, Nat.le_refl _, Nat.le_refl _, fun i _ _ => rfl, fun i _ _ => rfl⟩
    · rw [hsl, mkSlot] at hne
      exact putAt_ne (by omega) (by omega)
    · rw [hsl, mkSlot] at hne
      exact mkList_at (by omega)
  · have hs : edSc s e = ⟨s.g, s.ns.set e.h.1.toNat e.n, s.ms, s.ts, s.root⟩ := by simp [edSc, k]
    have hsl : touched s e = e.h.1 := by simp [touched, k]
    have hh : 0 ≤ e.h.1 := by
      unfold edErr at he
      rw [if_neg (by omega), if_pos k] at he
      split at he
      · rename_i h1; exact (held_lt h1).2
      · cases he
    rw [hs]
    refine ⟨by simp, by show _ ≤ s.g.ks.length; omega, by show _ ≤ s.g.sl.length; omega, fun i hi hne => nth_set_ne (by omega), fun i _ _ => rfl, fun i _ _ _ => rfl, fun _ _ => ⟨rfl, rfl⟩, fun e0 => by omega, Nat.le_refl _, Nat.le_refl _, fun i _ _ => rfl, fun i _ _ => rfl⟩
  · have hs : edSc s e = ⟨linkG s.g e.h e.c e.p, s.ns, s.ms, s.ts, s.root⟩ := by simp [edSc, k]
    have hsl : touched s e = e.h.1 := by simp [touched, k]
    have hh : 0 ≤ e.h.1 := by
      unfold edErr at he
      rw [if_neg (by omega), if_neg (by omega), if_pos k] at he
      split at he
      · rename_i h1; exact (held_lt h1.1).2
      · cases he
    rw [hs]
    refine ⟨Nat.le_refl _, by show _ ≤ (s.g.ks.set _ _).length; rw [List.length_set]; omega, by show _ ≤ s.g.sl.length; omega, fun i _ _ => rfl, fun i _ _ => rfl, fun i hi hne _ => nth_set_ne (by omega), fun _ _ => ⟨rfl, rfl⟩, fun e0 => by omega, Nat.le_refl _, Nat.le_refl _, fun i _ _ => rfl, fun i _ _ => rfl⟩
  · have hs : edSc s e = ⟨unlinkG s.g e.h e.p, s.ns, s.ms, s.ts, s.root⟩ := by simp [edSc, k]
    have hsl : touched s e = e.h.1 := by simp [touched, k]
    have hh : 0 ≤ e.h.1 := by
      unfold edErr at he
      rw [if_neg (by omega), if_neg (by omega), if_neg (by omega), if_pos k] at he
      unfold unlinkErr askErr at he
      rw [if_pos hg] at he
      split at he
      · rename_i h1
        exact (held_lt h1.1).2
      · cases he
    rw [hs]
    refine ⟨Nat.le_refl _, by show _ ≤ (s.g.ks.set _ _).length; rw [List.length_set]; omega, by show _ ≤ s.g.sl.length; omega, fun i _ _ => rfl, fun i _ _ => rfl, fun i hi hne _ => nth_set_ne (by omega), fun _ _ => ⟨rfl, rfl⟩, fun e0 => by omega, Nat.le_refl _, Nat.le_refl _, fun i _ _ => rfl, fun i _ _ => rfl⟩
  · have hs : edSc s e = ⟨killG s.g e.h, s.ns.set e.h.1.toNat nd0, s.ms, s.ts, if s.root = e.h then (0, 0) else s.root⟩ := by simp [edSc, k]
    have hsl : touched s e = e.h.1 := by simp [touched, k]
    have hh : 0 ≤ e.h.1 := by
      unfold edErr at he
      rw [if_neg (by omega), if_neg (by omega), if_neg (by omega), if_neg (by omega), if_pos k] at he
      unfold askErr at he
      rw [if_pos hg] at he
      split at he
      · rename_i h1; exact (held_lt h1.1).2
      · cases he
    rw [hs]
    refine ⟨by simp, by show _ ≤ ((s.g.ks.map _).set _ _).length; rw [List.length_set, List.length_map]; omega, by show _ ≤ (s.g.sl.set _ _).length; rw [List.length_set]; omega, fun i hi hne => nth_set_ne (by omega), fun i hi hne => killList_at (by omega), fun i _ _ e0 => absurd k e0, fun _ _ => ⟨rfl, rfl⟩, fun e0 => by omega, Nat.le_refl _, Nat.le_refl _, fun i _ _ => rfl, fun i _ _ => rfl⟩
  · have hs : edSc s e = ⟨s.g, s.ns, putAt s.ms (placeAt e.p s.ms.length) e.m, s.ts, s.root⟩ := by simp [edSc, k]
    have hp : placeAt e.p s.ms.length ≤ s.ms.length := by
      unfold edErr at he
      rw [if_neg (by omega), if_neg (by omega), if_neg (by omega), if_neg (by omega), if_neg (by omega), if_pos k] at he
      exact (place_ok he).1
    rw [hs]
    refine ⟨Nat.le_refl _, by show _ ≤ s.g.ks.length; omega, by show _ ≤ s.g.sl.length; omega, fun i _ _ => rfl, fun i _ _ => rfl, fun i _ _ _ => rfl, fun e0 _ => absurd k e0, fun _ => ⟨rfl, rfl⟩, by show _ ≤ (putAt _ _ _).length; rw [putAt_len]; split <;> omega, Nat.le_refl _, fun i hi h0 => ?_, fun i _ _ => rfl⟩
    exact putAt_ne hp (by omega)
  · have hs : edSc s e = ⟨s.g, s.ns, s.ms, putAt s.ts (placeAt e.p s.ts.length) e.t, s.root⟩ := by simp [edSc, k]
    have hp : placeAt e.p s.ts.length ≤ s.ts.length := by
      unfold edErr at he
      rw [if_neg (by omega), if_neg (by omega), if_neg (by omega), if_neg (by omega), if_neg (by omega), if_neg (by omega), if_pos k] at he
      exact (place_ok he).1
    rw [hs]
    refine ⟨Nat.le_refl _, by show _ ≤ s.g.ks.length; omega, by show _ ≤ s.g.sl.length; omega, fun i _ _ => rfl, fun i _ _ => rfl, fun i _ _ _ => rfl, fun _ e0 => absurd k e0, fun _ => ⟨rfl, rfl⟩, Nat.le_refl _, by show _ ≤ (putAt _ _ _).length; rw [putAt_len]; split <;> omega, fun i _ _ => rfl, fun i hi h0 => ?_⟩
    exact putAt_ne hp (by omega)
  · have hs : edSc s e = ⟨s.g, s.ns, s.ms, s.ts, e.h⟩ := by simp [edSc, k]
    rw [hs]
    exact ⟨Nat.le_refl _, by show _ ≤ s.g.ks.length; omega, by show _ ≤ s.g.sl.length; omega, fun i _ _ => rfl, fun i _ _ => rfl, fun i _ _ _ => rfl, fun _ _ => ⟨rfl, rfl⟩, fun e0 => by omega, Nat.le_refl _, Nat.le_refl _, fun i _ _ => rfl, fun i _ _ => rfl⟩

structure Back (s b : Sc) (k : Nat) : Prop where
  root : b.root = s.root
  kl : k < b.ns.length
  nl : s.ns.length ≤ b.ns.length
  kn : s.ns.length ≤ b.g.ks.length
  sn : s.ns.length ≤ b.g.sl.length
  n : ∀ i, i < s.ns.length → nth nd0 b.ns i = nth nd0 s.ns i
  r : ∀ i, i < s.ns.length → nth [] b.g.ks i = nth [] s.g.ks i
  v : ∀ i, i < s.ns.length → i ≠ k → nth dSl b.g.sl i = nth dSl s.g.sl i

end

section


open Go.RowKit Go.ChangeShapes Go.WideShapes Go.ChangeAt

set_option linter.unusedSimpArgs false

set_option linter.unusedVariables false

attribute [local go_sem] plus_size plus_drew dn_set dn_alloc dn_plus plus_dn cell_plus frozen_plus set_plus cell_alloc frozen_alloc set_alloc

theorem lay_part3 {w : World} {g off n k : Nat} {l : List (Int × Int)} (hl : l.length = n) (h : ∀ j u, (l.flatMap f2)[j]? = some u → w.cell? ⟨g, off + j, none⟩ = some u) (hk : k < n) :
    ∀ j v, (f2 (nth (0, 0) l k))[j]? = some v → w.cell? ⟨g, off + k * 2 + j, none⟩ = some v := by
  intro j v hj
  have hjc : j < 2 := (List.getElem?_eq_some_iff.1 hj).1
  rw [Nat.add_assoc]
  exact cell_nth (d := (0, 0)) hl f2_c h k j v hk hjc hj

theorem eq2_eqh (a b : Int × Int) : eq2 a b = eqh a.1 a.2 b.1 b.2 := by
  by_cases h1 : a.1 = b.1 <;> by_cases h2 : a.2 = b.2 <;> simp [eq2, eqh, h1, h2]

set_option maxHeartbeats 2000000 in
theorem kids_calls (ao ao2 : Option Addr) (n n2 cap cap2 : Nat) (l l2 : List (Int × Int)) (w : World) (hl : Lay f2 w ao n l) (hl2 : Lay f2 w ao2 n2 l2) (hn : n ≤ 100000) {v : Bool} (hv : same2 l l2 = v) :
    Calls Tryz.prog 25 #[.slice ao n cap, .slice ao2 n2 cap2] w fun e w' => e = .returned (.bool v) ∧ ∃ y, w' = plus w y := by
  have hlen := hl.len
  have hlen2 := hl2.len
  by_cases hne : n = n2
  rotate_left
  · have dne : ((n : Int) == (n2 : Int)) = false := by rw [beq_eq_false_iff_ne]; omega
    rw [show same2 l l2 = false from same_len (by omega)] at hv
    subst hv
    go_enter Tryz.func25, Tryz.ntmps25
    go_wp2
    go_ret
    exact ⟨rfl, sk9⟩
  subst hne
  replace hv := Hush9.mk hv
  go_enter Tryz.func25, Tryz.ntmps25
  go_wp2
  go_loopw [5] (fun i wr => ∃ k : Nat, k ≤ n ∧ i = .int .i64 k ∧ (∀ j, j < k → eq2 (nth (0, 0) l j) (nth (0, 0) l2 j) = true) ∧ ∃ y, wr = plus w y) (fun i _ => n - (intOf i).toNat)
  case atStart => exact ⟨0, Nat.zero_le _, rfl, fun j hj => by omega, sk9⟩
  case round =>
    obtain ⟨k, hk, rfl, hs', y, rfl⟩ := hrel
    by_cases hkl : k < n
    · have ik : (k : Int) < (n : Int) := by omega
      obtain ⟨g1, o1, rfl, hg1, hc1⟩ := hl.some (by omega)
      obtain ⟨g2, o2, rfl, hg2, hc2⟩ := hl2.some (by omega)
      have a0 := lay_part3 hlen hc1 hkl 0 _ rfl
      have a1 := lay_part3 hlen hc1 hkl 1 _ rfl
      have b0 := lay_part3 hlen2 hc2 hkl 0 _ rfl
      have b1 := lay_part3 hlen2 hc2 hkl 1 _ rfl
      rw [Nat.add_zero] at a0 b0
      obtain ⟨bq, hq⟩ : ∃ b, eq2 (nth (0, 0) l k) (nth (0, 0) l2 k) = b := ⟨_, rfl⟩
      have hq2 := hq
      rw [eq2_eqh] at hq2
      have qH := eqH_is hq2
      replace hq := Hush9.mk hq
      clear hq2 hc1 hc2
      cases bq
      · go_wp2
        refine region_plus (by kernel_rfl) (by kernel_rfl) ?_
        (repeat (go_big_quiet_step (fail)))
        refine wpQuiet_nil ?_
        rintro _ ⟨x2, rfl⟩
        go_wp2
        go_ret
        exact ⟨by rw [← hv.it, show same2 l l2 = false from same_not (k := k) (by omega) hq.it]; rfl, sk9⟩
      · go_wp2
        refine region_plus (by kernel_rfl) (by kernel_rfl) ?_
        (repeat (go_big_quiet_step (fail)))
        refine wpQuiet_nil ?_
        rintro _ ⟨x2, rfl⟩
        go_wp2
        go_roundw
        case rel => exact ⟨k + 1, by omega, by go_num, upto_succ9 hs' hq.it, sk9⟩
        case measure => simp [intOf]; omega
    · have ik : ¬ (k : Int) < (n : Int) := by omega
      obtain rfl : n = k := by omega
      have hall : same2 l l2 = true := same_all (by omega) (fun j hj => hs' j (by omega))
      go_wp2
      go_ret
      exact ⟨by rw [← hv.it, hall]; rfl, sk9⟩

end

section


open Go.RowKit Go.ChangeShapes Go.WideShapes Go.ChangeAt

set_option linter.unusedSimpArgs false

set_option linter.unusedVariables false

attribute [local go_sem] plus_size plus_drew dn_set dn_alloc dn_plus plus_dn cell_plus frozen_plus set_plus cell_alloc frozen_alloc set_alloc

theorem same2_rfl (l : List (Int × Int)) : same2 l l = true := same_refl (fun a => by simp [eq2]) _

theorem eqh_rfl (a b : Int) : eqh a b a b = true := by simp [eqh]

theorem same_is {h h2 : NH} {n n2 : Nd} {w : World} (e : n = n2) (hN : NodeAt w h n) (hN2 : NodeAt w h2 n2) (s1 : h.n ≤ 10000) (s2 : h2.n ≤ 10000) :
    Calls Tryz.prog 24 #[.agg (fN h).toArray, .agg (fN h2).toArray] w fun e w' => e = .returned (.bool true) ∧ ∃ y, w' = plus w y := by
  subst e
  exact sameNd_at hN hN2 s1 s2 (sameNd_refl n)

theorem kids_is {ao ao2 : Option Addr} {n n2 cap cap2 : Nat} {l l2 : List (Int × Int)} {w : World} (e : l = l2) (hl : Lay f2 w ao n l) (hl2 : Lay f2 w ao2 n2 l2) (hn : n ≤ 100000) :
    Calls Tryz.prog 25 #[.slice ao n cap, .slice ao2 n2 cap2] w fun e w' => e = .returned (.bool true) ∧ ∃ y, w' = plus w y := by
  subst e
  exact kids_calls ao ao2 n n2 cap cap2 l l w hl hl2 hn (same2_rfl l)

theorem doErr_may {s : Sc} {d : Ed} (h : doErr s d = 0) : maySc s = true ∧ edErr s d = 0 ∧ doSc s d = edSc s d := by
  have h' := h
  unfold doErr at h
  split at h
  · rename_i hm
    exact ⟨hm, h, by rw [doSc, if_pos h']⟩
  · cases h

theorem few_do {s : Sc} {d : Ed} : FewSc (doSc s d) := by
  by_cases h : doErr s d = 0
  · exact few_may (do_may h)
  · rw [(do_refused rfl h).1]
    exact (sc0_at (w := default)).f

end

end Go.Proofs.YtcekcihijdipoaaGreat
