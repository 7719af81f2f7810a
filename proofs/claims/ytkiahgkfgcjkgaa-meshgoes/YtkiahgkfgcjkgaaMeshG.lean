/- What MeshGoes leans on: meshes that are not great; what stays of memory that is written over. -/
import Derived.Test.YtkiahgkfgcjkgaaMeshRT
import Derived.Test.YtkiahgkfgcjkgaaMesh14
import Derived.Test.YtkiahgkfgcjkgaaMesh12
import Derived.Test.YtkiahgkfgcjkgaaMesh10
namespace Go.Proofs.Ytkiahgkfgcjkgaa
open Go.RowKit Go.ChangeShapes Go.WideShapes Go.ChangeAt
set_option linter.unusedSimpArgs false
set_option linter.unusedVariables false
attribute [local go_sem] plus_size plus_drew dn_set dn_alloc dn_plus plus_dn cell_plus frozen_plus set_plus cell_alloc frozen_alloc set_alloc

attribute [local go_sem] eqarr_34 nearr_34 larr_34

attribute [local go_sem] eqarr_50 nearr_50 larr_50

attribute [local go_sem] isnil_26

attribute [local go_sem] isnil_29

attribute [local go_sem] isnil_30

attribute [local go_sem] isnil_31

structure SmallAt (w : World) (va : Option Addr) (vn vc : Nat) (ua : Option Addr) (un uc : Nat) (pa : Option Addr) (pn pc : Nat) (hs : List PH) (m : Ms) : Prop where
  at0 : MeshAt w ⟨va, vn, vc, ua, un, uc, pa, pn, pc⟩ hs m
  few : Few hs
  s1 : vn ≤ 1000
  s2 : un ≤ 1000
  s3 : pn ≤ 100
theorem SmallAt.ex {w w' : World} {va : Option Addr} {vn vc : Nat} {ua : Option Addr} {un uc : Nat} {pa : Option Addr} {pn pc : Nat} {hs : List PH} {m : Ms} (h : SmallAt w va vn vc ua un uc pa pn pc hs m) (hw : ∃ x, w' = plus w x) : SmallAt w' va vn vc ua un uc pa pn pc hs m :=
  ⟨h.at0.ex hw, h.few, h.s1, h.s2, h.s3⟩

theorem samePr_refl (p : Pr) : samePr p p = true := by
  rw [samePr, decide_eq_true rfl, show sameI p.ix p.ix = true from same_refl eqI_refl _]
  rfl
theorem sameMs_refl (m : Ms) : sameMs m m = true := by
  rw [sameMs, show sameV m.vs m.vs = true from same_refl eqV_refl _, show same2 m.uv m.uv = true from same_refl eq2_refl _, show samePs m.ps m.ps = true from same_refl samePr_refl _]
  rfl

section
variable {w : World} {va ua pa xa ya za : Option Addr} {vn vc un uc pn pc xn xc yn yc zn zc : Nat} {hs gs : List PH} {m o : Ms}
theorem same_any (h1 : SmallAt w va vn vc ua un uc pa pn pc hs m) (h2 : SmallAt w xa xn xc ya yn yc za zn zc gs o) :
    Calls Try.prog 21 #[.agg #[.slice va vn vc, .slice ua un uc, .slice pa pn pc], .agg #[.slice xa xn xc, .slice ya yn yc, .slice za zn zc]] w fun e w' => e = .returned (.bool (sameMs m o)) ∧ Below w.heap.size w w' :=
  same_calls _ _ _ _ _ _ _ _ _ hs _ _ _ _ _ _ _ _ _ gs m o w h1.at0 h2.at0 h1.few h2.few h1.s1 h1.s2 h1.s3 h2.s1 h2.s2 h2.s3
theorem same_self (h1 : SmallAt w va vn vc ua un uc pa pn pc hs m) (h2 : SmallAt w xa xn xc ya yn yc za zn zc gs m) :
    Calls Try.prog 21 #[.agg #[.slice va vn vc, .slice ua un uc, .slice pa pn pc], .agg #[.slice xa xn xc, .slice ya yn yc, .slice za zn zc]] w fun e w' => e = .returned (.bool true) ∧ Below w.heap.size w w' := by
  have := same_any h1 h2
  rwa [sameMs_refl] at this
theorem rsame_any (h1 : SmallAt w va vn vc ua un uc pa pn pc hs m) (h2 : SmallAt w xa xn xc ya yn yc za zn zc gs o) :
    Calls Try.prog 22 #[.agg #[.slice va vn vc, .slice ua un uc, .slice pa pn pc], .agg #[.slice xa xn xc, .slice ya yn yc, .slice za zn zc]] w fun e w' => e = .returned (.bool (sameMs m o)) ∧ Below w.heap.size w w' :=
  rsame_calls _ _ _ _ _ _ _ _ _ hs _ _ _ _ _ _ _ _ _ gs m o w h1.at0 h2.at0 h1.few h2.few h1.s1 h1.s2 h1.s3 h2.s1 h2.s2 h2.s3
theorem rsame_self (h1 : SmallAt w va vn vc ua un uc pa pn pc hs m) (h2 : SmallAt w xa xn xc ya yn yc za zn zc gs m) :
    Calls Try.prog 22 #[.agg #[.slice va vn vc, .slice ua un uc, .slice pa pn pc], .agg #[.slice xa xn xc, .slice ya yn yc, .slice za zn zc]] w fun e w' => e = .returned (.bool true) ∧ Below w.heap.size w w' := by
  have := rsame_any h1 h2
  rwa [sameMs_refl] at this
theorem check_small (h1 : SmallAt w va vn vc ua un uc pa pn pc hs m) : Calls Try.prog 11 #[.agg #[.slice va vn vc, .slice ua un uc, .slice pa pn pc]] w fun e w' => e = .returned (.int .i64 (msErr m)) ∧ Below w.heap.size w w' := check_calls _ _ _ _ _ _ _ _ _ hs m w h1.at0
theorem rcheck_small (h1 : SmallAt w va vn vc ua un uc pa pn pc hs m) : Calls Try.prog 20 #[.agg #[.slice va vn vc, .slice ua un uc, .slice pa pn pc]] w fun e w' => e = .returned (.int .i64 (msErr m)) ∧ Below w.heap.size w w' := rcheck_calls _ _ _ _ _ _ _ _ _ hs m w h1.at0
theorem sameTris_self {a b : Option Addr} {n n2 c c2 : Nat} {l : List V3} (h1 : Lay fV w a n l) (h2 : Lay fV w b n2 l) (hn : l.length ≤ 10000) :
    Calls Try.prog 13 #[.slice a n c, .slice b n2 c2] w fun e w' => e = .returned (.bool true) ∧ Below w.heap.size w w' := by
  have := sameTris_calls a b n n2 c c2 l l w h1 h2 (by rw [← h1.len]; exact hn) (by rw [← h2.len]; exact hn)
  rwa [show sameV l l = true from same_refl eqV_refl _] at this

theorem twin_small {T w1 : World} {h : MH} {phs : List PH} (hm : SmallAt w va vn vc ua un uc pa pn pc hs m) (ht : TwinAt T w1 h phs m) (e1 : h.vn = vn) (e2 : h.un = un) (e3 : h.pn = pn) : SmallAt w1 h.va h.vn h.vc h.ua h.un h.uc h.pa h.pn h.pc phs m := by
  have hpp : PrimsAt w hs m.ps := hm.at0.pp
  have l1 := hpp.len
  have hn : ∀ k, k < phs.length → (nth dPH phs k).n = (nth dPH hs k).n := by
    intro k hk
    rw [← (ht.ix k hk).1, (hpp.one k (by rw [l1, ← ht.len]; exact hk)).lay.len]
  have hfew : Few phs := by
    intro k hk
    rw [hn k hk]
    exact hm.few k (by rw [l1, ← ht.len]; exact hk)
  have s1 := hm.s1
  have s2 := hm.s2
  have s3 := hm.s3
  refine ⟨⟨show h.vn ≤ _ by omega, show h.un ≤ _ by omega, show h.pn ≤ _ by omega, ht.v.none_zero, ht.u.none_zero, ht.p.none_zero, ht.v.lay, ht.u.lay, ht.p.lay, ht.len, fun k hk => ?_⟩, hfew, by omega, by omega, by omega⟩
  have hp := hpp.one k (by rw [l1, ← ht.len]; exact hk)
  have hf := hfew k hk
  exact ⟨ht.kind k hk, hp.lo, hp.hi, by omega, (ht.ix k hk).none_zero, (ht.ix k hk).lay⟩
end

/-- a list's block, whatever it holds -/
def Sh (T : World) (e : TypeId) (c : Nat) (w : World) (ao : Option Addr) (n : Nat) : Prop := n = 0 ∨ ∃ g cur, ao = some ⟨g, 0, none⟩ ∧ T.heap.size ≤ g ∧ w.heap[g]? = some (.cells cur e) ∧ n * c ≤ cur.size
theorem Own.sh {α : Type} {f : α → List Value} {w T : World} {ao : Option Addr} {n cap c : Nat} {l : List α} {e : TypeId} (h : Own e c f T w ao n cap l) : Sh T e c w ao n := by
  by_cases hn : n = 0
  · exact .inl hn
  · exact .inr (h.blk (by omega))
theorem Sh.set {w T : World} {ao : Option Addr} {n c g i : Nat} {e : TypeId} {u : Value} (h : Sh T e c w ao n) : Sh T e c (w.setCell ⟨g, i, none⟩ u) ao n := by
  refine h.imp id ?_
  rintro ⟨k, cur, h1, h2, h3, h4⟩
  by_cases e0 : g = k
  · subst e0
    exact ⟨g, _, h1, h2, blk_set_eq h3, by rw [Array.size_setIfInBounds]; exact h4⟩
  · exact ⟨k, cur, h1, h2, by rw [blk_set_ne e0]; exact h3, h4⟩
theorem Sh.ex {w w' T : World} {ao : Option Addr} {n c : Nat} {e : TypeId} (h : Sh T e c w ao n) (hw : ∃ x, w' = plus w x) : Sh T e c w' ao n := by
  refine h.imp id ?_
  rintro ⟨k, cur, h1, h2, h3, h4⟩
  exact ⟨k, cur, h1, h2, blk_ex hw h3, h4⟩
theorem blk_cell {w : World} {g i : Nat} {cur : Array Value} {e : TypeId} (h : w.heap[g]? = some (.cells cur e)) (hi : i < cur.size) : w.cell? ⟨g, i, none⟩ = some cur[i] := cell_blk h (by simp [hi])

end Go.Proofs.Ytkiahgkfgcjkgaa
