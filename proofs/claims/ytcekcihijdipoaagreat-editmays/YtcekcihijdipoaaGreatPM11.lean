/- A pack of texts: Ed5, EdLs, LoadPart, StorePart, EdBox, Mesh5. -/
import Derived.BigQuiet
import Derived.Laws.Tables
import Derived.Deep.DeepCutAuto
import Derived.Test.YtcekcihijdipoaaGreatPM8
import Derived.Test.YtcekcihijdipoaaGreatPM10
import Derived.Test.YtcekcihijdipoaaGreatPM2
import Derived.Test.YtcekcihijdipoaaGreatPM6
import Derived.Test.YtcekcihijdipoaaGreatPM1
import Derived.Test.YtcekcihijdipoaaGreatPM4
import Derived.Test.YtcekcihijdipoaaGreatPM5
namespace Go.Proofs.YtcekcihijdipoaaGreat

section


open Go.RowKit Go.ChangeShapes Go.WideShapes Go.ChangeAt

set_option linter.unusedSimpArgs false

set_option linter.unusedVariables false

attribute [local go_sem] plus_size plus_drew dn_set dn_alloc dn_plus plus_dn cell_plus frozen_plus set_plus cell_alloc frozen_alloc set_alloc

/-- many cells read at once, kept as one word for the walk -/
def ldN (a : Addr) (n : Nat) : Sem (Array Value) := loadCellsFrom a 0 n #[]

theorem blk_new1 (w : World) (o o2 : Obj) : ((w.alloc o).alloc o2).heap[w.heap.size + 1]? = some o2 := by
  have h : ((w.alloc o).alloc o2).heap[(w.alloc o).heap.size]? = some o2 := by rw [blk_alloc, if_pos rfl]
  rwa [show (w.alloc o).heap.size = w.heap.size + 1 from Array.size_push ..] at h

theorem blk_new (w : World) (o : Obj) : (w.alloc o).heap[w.heap.size]? = some o := by rw [blk_alloc, if_pos rfl]

theorem sameNd_is {ak am0 am1 am2 am3 am4 am5 am6 am7 am8 am9 am10 am11 ao ac0 ac1 ac2 ae as0 as1 as2 as3 as4 as5 as6 as7 as8 as9 as10 as11 as13 : Int} {as12 : Bool} {aa : Option Addr} {an ax : Nat} {af : List Int} {bk bm0 bm1 bm2 bm3 bm4 bm5 bm6 bm7 bm8 bm9 bm10 bm11 bo bc0 bc1 bc2 be bs0 bs1 bs2 bs3 bs4 bs5 bs6 bs7 bs8 bs9 bs10 bs11 bs13 : Int} {bs12 : Bool} {ba : Option Addr} {bn bx : Nat} {bf : List Int} {w : World} {b : Bool} (h : sameNd ⟨⟨ak, ⟨⟨⟨am0, am1, am2⟩, ⟨am3, am4, am5⟩, ⟨am6, am7, am8⟩⟩, ⟨am9, am10, am11⟩⟩, ao, ⟨ac0, ac1, ac2⟩, ae, ⟨as0, as1, as2, as3, as4, ⟨as5, as6, as7, as8, as9, as10, as11, as12, as13⟩⟩⟩, af⟩ ⟨⟨bk, ⟨⟨⟨bm0, bm1, bm2⟩, ⟨bm3, bm4, bm5⟩, ⟨bm6, bm7, bm8⟩⟩, ⟨bm9, bm10, bm11⟩⟩, bo, ⟨bc0, bc1, bc2⟩, be, ⟨bs0, bs1, bs2, bs3, bs4, ⟨bs5, bs6, bs7, bs8, bs9, bs10, bs11, bs12, bs13⟩⟩⟩, bf⟩ = b) (hl : Lay fI w aa an af) (hl2 : Lay fI w ba bn bf) (hn : an ≤ 10000) (hn2 : bn ≤ 10000) :
    Calls Tryz.prog 24 #[.agg (List.toArray (.int .u8 ak :: .int .i64 am0 :: .int .i64 am1 :: .int .i64 am2 :: .int .i64 am3 :: .int .i64 am4 :: .int .i64 am5 :: .int .i64 am6 :: .int .i64 am7 :: .int .i64 am8 :: .int .i64 am9 :: .int .i64 am10 :: .int .i64 am11 :: .int .u16 ao :: .int .i64 ac0 :: .int .i64 ac1 :: .int .i64 ac2 :: .slice aa an ax :: .int .i64 ae :: .int .u8 as0 :: .int .u8 as1 :: .int .u8 as2 :: .int .u8 as3 :: .int .u8 as4 :: .int .u8 as5 :: .int .u8 as6 :: .int .u8 as7 :: .int .u8 as8 :: .int .i64 as9 :: .int .u8 as10 :: .int .i64 as11 :: .bool as12 :: .int .i64 as13 :: [])), .agg (List.toArray (.int .u8 bk :: .int .i64 bm0 :: .int .i64 bm1 :: .int .i64 bm2 :: .int .i64 bm3 :: .int .i64 bm4 :: .int .i64 bm5 :: .int .i64 bm6 :: .int .i64 bm7 :: .int .i64 bm8 :: .int .i64 bm9 :: .int .i64 bm10 :: .int .i64 bm11 :: .int .u16 bo :: .int .i64 bc0 :: .int .i64 bc1 :: .int .i64 bc2 :: .slice ba bn bx :: .int .i64 be :: .int .u8 bs0 :: .int .u8 bs1 :: .int .u8 bs2 :: .int .u8 bs3 :: .int .u8 bs4 :: .int .u8 bs5 :: .int .u8 bs6 :: .int .u8 bs7 :: .int .u8 bs8 :: .int .i64 bs9 :: .int .u8 bs10 :: .int .i64 bs11 :: .bool bs12 :: .int .i64 bs13 :: []))] w fun e w' => e = .returned (.bool b) ∧ ∃ y, w' = plus w y := h ▸ sameNd_calls ak am0 am1 am2 am3 am4 am5 am6 am7 am8 am9 am10 am11 ao ac0 ac1 ac2 ae as0 as1 as2 as3 as4 as5 as6 as7 as8 as9 as10 as11 as13 as12 aa an ax af bk bm0 bm1 bm2 bm3 bm4 bm5 bm6 bm7 bm8 bm9 bm10 bm11 bo bc0 bc1 bc2 be bs0 bs1 bs2 bs3 bs4 bs5 bs6 bs7 bs8 bs9 bs10 bs11 bs13 bs12 ba bn bx bf w hl hl2 hn hn2

theorem mayNd_is {ga ka na ma ta : Option Addr} {gn gc kn kc nn nc mn mc tn tc : Nat} {r0 r1 : Int} {ak am0 am1 am2 am3 am4 am5 am6 am7 am8 am9 am10 am11 ao ac0 ac1 ac2 ae as0 as1 as2 as3 as4 as5 as6 as7 as8 as9 as10 as11 as13 : Int} {as12 : Bool} {aa : Option Addr} {an ax : Nat} {af : List Int} {w : World} {b : Bool} (h : mayNd mn tn ⟨⟨ak, ⟨⟨⟨am0, am1, am2⟩, ⟨am3, am4, am5⟩, ⟨am6, am7, am8⟩⟩, ⟨am9, am10, am11⟩⟩, ao, ⟨ac0, ac1, ac2⟩, ae, ⟨as0, as1, as2, as3, as4, ⟨as5, as6, as7, as8, as9, as10, as11, as12, as13⟩⟩⟩, af⟩ = b) (hB : NfB ⟨ak, ⟨⟨⟨am0, am1, am2⟩, ⟨am3, am4, am5⟩, ⟨am6, am7, am8⟩⟩, ⟨am9, am10, am11⟩⟩, ao, ⟨ac0, ac1, ac2⟩, ae, ⟨as0, as1, as2, as3, as4, ⟨as5, as6, as7, as8, as9, as10, as11, as12, as13⟩⟩⟩) (hl : Lay fI w aa an af) (hn : an ≤ 9223372036854775807) :
    Calls Tryz.prog 51 #[.agg #[.slice ga gn gc, .slice ka kn kc, .slice na nn nc, .slice ma mn mc, .slice ta tn tc, .int .i64 r0, .int .i64 r1], .agg (List.toArray (.int .u8 ak :: .int .i64 am0 :: .int .i64 am1 :: .int .i64 am2 :: .int .i64 am3 :: .int .i64 am4 :: .int .i64 am5 :: .int .i64 am6 :: .int .i64 am7 :: .int .i64 am8 :: .int .i64 am9 :: .int .i64 am10 :: .int .i64 am11 :: .int .u16 ao :: .int .i64 ac0 :: .int .i64 ac1 :: .int .i64 ac2 :: .slice aa an ax :: .int .i64 ae :: .int .u8 as0 :: .int .u8 as1 :: .int .u8 as2 :: .int .u8 as3 :: .int .u8 as4 :: .int .u8 as5 :: .int .u8 as6 :: .int .u8 as7 :: .int .u8 as8 :: .int .i64 as9 :: .int .u8 as10 :: .int .i64 as11 :: .bool as12 :: .int .i64 as13 :: []))] w fun e w' => e = .returned (.bool b) ∧ ∃ y, w' = plus w y := h ▸ mayNd_calls ga ka na ma ta gn gc kn kc nn nc mn mc tn tc r0 r1 ak am0 am1 am2 am3 am4 am5 am6 am7 am8 am9 am10 am11 ao ac0 ac1 ac2 ae as0 as1 as2 as3 as4 as5 as6 as7 as8 as9 as10 as11 as13 as12 aa an ax af w hB hl hn

theorem sameNd_at {h h2 : NH} {n n2 : Nd} {w : World} (hN : NodeAt w h n) (hN2 : NodeAt w h2 n2) (s1 : h.n ≤ 10000) (s2 : h2.n ≤ 10000) {b : Bool} (hb : sameNd n n2 = b) :
    Calls Tryz.prog 24 #[vN h, vN h2] w fun e w' => e = .returned (.bool b) ∧ ∃ y, w' = plus w y := by
  subst hb
  obtain ⟨⟨ak, ⟨⟨⟨am0, am1, am2⟩, ⟨am3, am4, am5⟩, ⟨am6, am7, am8⟩⟩, ⟨am9, am10, am11⟩⟩, ao, ⟨ac0, ac1, ac2⟩, ae, ⟨as0, as1, as2, as3, as4, ⟨as5, as6, as7, as8, as9, as10, as11, as12, as13⟩⟩⟩, aa, an, ax⟩ := h
  obtain ⟨⟨bk, ⟨⟨⟨bm0, bm1, bm2⟩, ⟨bm3, bm4, bm5⟩, ⟨bm6, bm7, bm8⟩⟩, ⟨bm9, bm10, bm11⟩⟩, bo, ⟨bc0, bc1, bc2⟩, be, ⟨bs0, bs1, bs2, bs3, bs4, ⟨bs5, bs6, bs7, bs8, bs9, bs10, bs11, bs12, bs13⟩⟩⟩, ba, bn, bx⟩ := h2
  obtain ⟨f, far⟩ := n
  obtain ⟨f2, far2⟩ := n2
  obtain rfl := hN.f
  obtain rfl := hN2.f
  exact sameNd_calls _ _ _ _ _ _ _ _ _ _ _ _ _ _ _ _ _ _ _ _ _ _ _ _ _ _ _ _ _ _ _ _ _ _ _ far _ _ _ _ _ _ _ _ _ _ _ _ _ _ _ _ _ _ _ _ _ _ _ _ _ _ _ _ _ _ _ _ _ _ _ far2 w hN.lay hN2.lay s1 s2

theorem nf0_B : NfB nf0 := ⟨⟨by decide, by decide⟩, ⟨by decide, by decide⟩, ⟨⟨by decide, by decide⟩, ⟨by decide, by decide⟩, ⟨by decide, by decide⟩, ⟨by decide, by decide⟩, ⟨by decide, by decide⟩, ⟨⟨by decide, by decide⟩, ⟨by decide, by decide⟩, ⟨by decide, by decide⟩, ⟨by decide, by decide⟩, ⟨by decide, by decide⟩⟩⟩⟩

theorem nd0_at (w : World) : NodeAt w nh0 nd0 := ⟨rfl, nf0_B, by decide, by decide, fun _ => ⟨rfl, rfl⟩, Lay.nil⟩

theorem build_node (w : World) : (Instr.build 56 #[]).run Tryz.prog w = .ok (.agg (List.toArray (.int .u8 0 :: .int .i64 0 :: .int .i64 0 :: .int .i64 0 :: .int .i64 0 :: .int .i64 0 :: .int .i64 0 :: .int .i64 0 :: .int .i64 0 :: .int .i64 0 :: .int .i64 0 :: .int .i64 0 :: .int .i64 0 :: .int .u16 0 :: .int .i64 0 :: .int .i64 0 :: .int .i64 0 :: .slice none 0 0 :: .int .i64 0 :: .int .u8 0 :: .int .u8 0 :: .int .u8 0 :: .int .u8 0 :: .int .u8 0 :: .int .u8 0 :: .int .u8 0 :: .int .u8 0 :: .int .u8 0 :: .int .i64 0 :: .int .u8 0 :: .int .i64 0 :: .bool false :: .int .i64 0 :: []))) w := run_build w 56 #[] _ (by kernel_rfl)

set_option maxRecDepth 100000 in
set_option maxHeartbeats 4000000 in
theorem zero_calls (ak am0 am1 am2 am3 am4 am5 am6 am7 am8 am9 am10 am11 ao ac0 ac1 ac2 ae as0 as1 as2 as3 as4 as5 as6 as7 as8 as9 as10 as11 as13 : Int) (as12 : Bool) (aa : Option Addr) (an ax : Nat) (af : List Int) (w : World) (hl : Lay fI w aa an af) (s1 : an ≤ 10000) :
    Calls Tryz.prog 90 #[.agg (List.toArray (.int .u8 ak :: .int .i64 am0 :: .int .i64 am1 :: .int .i64 am2 :: .int .i64 am3 :: .int .i64 am4 :: .int .i64 am5 :: .int .i64 am6 :: .int .i64 am7 :: .int .i64 am8 :: .int .i64 am9 :: .int .i64 am10 :: .int .i64 am11 :: .int .u16 ao :: .int .i64 ac0 :: .int .i64 ac1 :: .int .i64 ac2 :: .slice aa an ax :: .int .i64 ae :: .int .u8 as0 :: .int .u8 as1 :: .int .u8 as2 :: .int .u8 as3 :: .int .u8 as4 :: .int .u8 as5 :: .int .u8 as6 :: .int .u8 as7 :: .int .u8 as8 :: .int .i64 as9 :: .int .u8 as10 :: .int .i64 as11 :: .bool as12 :: .int .i64 as13 :: []))] w fun e w' => e = .returned (.bool (sameNd ⟨⟨ak, ⟨⟨⟨am0, am1, am2⟩, ⟨am3, am4, am5⟩, ⟨am6, am7, am8⟩⟩, ⟨am9, am10, am11⟩⟩, ao, ⟨ac0, ac1, ac2⟩, ae, ⟨as0, as1, as2, as3, as4, ⟨as5, as6, as7, as8, as9, as10, as11, as12, as13⟩⟩⟩, af⟩ nd0)) ∧ ∃ y, w' = plus w y := by
  obtain ⟨b, hb⟩ : ∃ b, sameNd ⟨⟨ak, ⟨⟨⟨am0, am1, am2⟩, ⟨am3, am4, am5⟩, ⟨am6, am7, am8⟩⟩, ⟨am9, am10, am11⟩⟩, ao, ⟨ac0, ac1, ac2⟩, ae, ⟨as0, as1, as2, as3, as4, ⟨as5, as6, as7, as8, as9, as10, as11, as12, as13⟩⟩⟩, af⟩ nd0 = b := ⟨_, rfl⟩
  rw [hb]
  have kB := build_node
  have kL := blk_new w (.cells ((List.toArray (.int .u8 ak :: .int .i64 am0 :: .int .i64 am1 :: .int .i64 am2 :: .int .i64 am3 :: .int .i64 am4 :: .int .i64 am5 :: .int .i64 am6 :: .int .i64 am7 :: .int .i64 am8 :: .int .i64 am9 :: .int .i64 am10 :: .int .i64 am11 :: .int .u16 ao :: .int .i64 ac0 :: .int .i64 ac1 :: .int .i64 ac2 :: .slice aa an ax :: .int .i64 ae :: .int .u8 as0 :: .int .u8 as1 :: .int .u8 as2 :: .int .u8 as3 :: .int .u8 as4 :: .int .u8 as5 :: .int .u8 as6 :: .int .u8 as7 :: .int .u8 as8 :: .int .i64 as9 :: .int .u8 as10 :: .int .i64 as11 :: .bool as12 :: .int .i64 as13 :: []))) 56)
  go_enter Tryz.func90, Tryz.ntmps90
  go_wp2_with (first | (refine wpList_load_row rfl 56 _ rfl (w.heap.size) rfl _ _ _ _ kL Tryz.underlying56 rfl (by kernel_rfl) ?_) | (go_at_call 24; refine (sameNd_is hb (hl.ex (by with_reducible repeat (first | exact ex_refl _ | exact ex_more9 | apply ex_alloc | apply ex_plus | apply ex_drew | apply ex_drewN))) Lay.nil s1 (by decide)).mono ?_; rintro e w' ⟨rfl, nx, rfl⟩))
  exact bodyPost_ret (v := .bool b) (by simp [results, Tryz.results90, go_sem]) rfl ⟨rfl, (by with_reducible repeat (first | exact ex_refl _ | exact ex_more9 | apply ex_alloc | apply ex_plus | apply ex_drew | apply ex_drewN))⟩

theorem zero_at {h : NH} {n : Nd} {w : World} (hN : NodeAt w h n) (s1 : h.n ≤ 10000) {b : Bool} (hb : sameNd n nd0 = b) :
    Calls Tryz.prog 90 #[vN h] w fun e w' => e = .returned (.bool b) ∧ ∃ y, w' = plus w y := by
  subst hb
  obtain ⟨⟨ak, ⟨⟨⟨am0, am1, am2⟩, ⟨am3, am4, am5⟩, ⟨am6, am7, am8⟩⟩, ⟨am9, am10, am11⟩⟩, ao, ⟨ac0, ac1, ac2⟩, ae, ⟨as0, as1, as2, as3, as4, ⟨as5, as6, as7, as8, as9, as10, as11, as12, as13⟩⟩⟩, aa, an, ax⟩ := h
  obtain ⟨f, far⟩ := n
  obtain rfl := hN.f
  exact zero_calls _ _ _ _ _ _ _ _ _ _ _ _ _ _ _ _ _ _ _ _ _ _ _ _ _ _ _ _ _ _ _ _ _ _ _ far w hN.lay s1

set_option maxRecDepth 100000 in
set_option maxHeartbeats 4000000 in
theorem checkNd_calls (ga ka na ma ta : Option Addr) (gn gc kn kc nn nc mn mc tn tc : Nat) (r0 r1 : Int) (ak am0 am1 am2 am3 am4 am5 am6 am7 am8 am9 am10 am11 ao ac0 ac1 ac2 ae as0 as1 as2 as3 as4 as5 as6 as7 as8 as9 as10 as11 as13 : Int) (as12 : Bool) (aa : Option Addr) (an ax : Nat) (af : List Int) (w : World) (hB : NfB ⟨ak, ⟨⟨⟨am0, am1, am2⟩, ⟨am3, am4, am5⟩, ⟨am6, am7, am8⟩⟩, ⟨am9, am10, am11⟩⟩, ao, ⟨ac0, ac1, ac2⟩, ae, ⟨as0, as1, as2, as3, as4, ⟨as5, as6, as7, as8, as9, as10, as11, as12, as13⟩⟩⟩) (hl : Lay fI w aa an af) (hn : an ≤ 9223372036854775807) {b : Bool} (hb : mayNd mn tn ⟨⟨ak, ⟨⟨⟨am0, am1, am2⟩, ⟨am3, am4, am5⟩, ⟨am6, am7, am8⟩⟩, ⟨am9, am10, am11⟩⟩, ao, ⟨ac0, ac1, ac2⟩, ae, ⟨as0, as1, as2, as3, as4, ⟨as5, as6, as7, as8, as9, as10, as11, as12, as13⟩⟩⟩, af⟩ = b) :
    Calls Tryz.prog 18 #[.agg #[.slice ga gn gc, .slice ka kn kc, .slice na nn nc, .slice ma mn mc, .slice ta tn tc, .int .i64 r0, .int .i64 r1], .agg (List.toArray (.int .u8 ak :: .int .i64 am0 :: .int .i64 am1 :: .int .i64 am2 :: .int .i64 am3 :: .int .i64 am4 :: .int .i64 am5 :: .int .i64 am6 :: .int .i64 am7 :: .int .i64 am8 :: .int .i64 am9 :: .int .i64 am10 :: .int .i64 am11 :: .int .u16 ao :: .int .i64 ac0 :: .int .i64 ac1 :: .int .i64 ac2 :: .slice aa an ax :: .int .i64 ae :: .int .u8 as0 :: .int .u8 as1 :: .int .u8 as2 :: .int .u8 as3 :: .int .u8 as4 :: .int .u8 as5 :: .int .u8 as6 :: .int .u8 as7 :: .int .u8 as8 :: .int .i64 as9 :: .int .u8 as10 :: .int .i64 as11 :: .bool as12 :: .int .i64 as13 :: []))] w fun e w' => e = .returned (.int .i64 (if b then 0 else 8)) ∧ ∃ y, w' = plus w y := by
  have kL := blk_new1 w (.cells #[.slice ga gn gc, .slice ka kn kc, .slice na nn nc, .slice ma mn mc, .slice ta tn tc, .int .i64 r0, .int .i64 r1] 34) (.cells ((List.toArray (.int .u8 ak :: .int .i64 am0 :: .int .i64 am1 :: .int .i64 am2 :: .int .i64 am3 :: .int .i64 am4 :: .int .i64 am5 :: .int .i64 am6 :: .int .i64 am7 :: .int .i64 am8 :: .int .i64 am9 :: .int .i64 am10 :: .int .i64 am11 :: .int .u16 ao :: .int .i64 ac0 :: .int .i64 ac1 :: .int .i64 ac2 :: .slice aa an ax :: .int .i64 ae :: .int .u8 as0 :: .int .u8 as1 :: .int .u8 as2 :: .int .u8 as3 :: .int .u8 as4 :: .int .u8 as5 :: .int .u8 as6 :: .int .u8 as7 :: .int .u8 as8 :: .int .i64 as9 :: .int .u8 as10 :: .int .i64 as11 :: .bool as12 :: .int .i64 as13 :: []))) 56)
  cases b
  · go_enter Tryz.func18, Tryz.ntmps18
    go_wp2_with (first | (refine wpList_load_row rfl 56 _ rfl (w.heap.size + 1) rfl _ _ _ _ kL Tryz.underlying56 rfl (by kernel_rfl) ?_) | (go_at_call 51; refine (mayNd_is hb hB (hl.ex (by with_reducible repeat (first | exact ex_refl _ | exact ex_more9 | apply ex_alloc | apply ex_plus | apply ex_drew | apply ex_drewN))) hn).mono ?_; rintro e w' ⟨rfl, nx, rfl⟩))
    exact bodyPost_ret (v := .int .i64 8) (by simp [results, Tryz.results18, go_sem]) rfl ⟨rfl, (by with_reducible repeat (first | exact ex_refl _ | exact ex_more9 | apply ex_alloc | apply ex_plus | apply ex_drew | apply ex_drewN))⟩
  · go_enter Tryz.func18, Tryz.ntmps18
    go_wp2_with (first | (refine wpList_load_row rfl 56 _ rfl (w.heap.size + 1) rfl _ _ _ _ kL Tryz.underlying56 rfl (by kernel_rfl) ?_) | (go_at_call 51; refine (mayNd_is hb hB (hl.ex (by with_reducible repeat (first | exact ex_refl _ | exact ex_more9 | apply ex_alloc | apply ex_plus | apply ex_drew | apply ex_drewN))) hn).mono ?_; rintro e w' ⟨rfl, nx, rfl⟩))
    exact bodyPost_ret (v := .int .i64 0) (by simp [results, Tryz.results18, go_sem]) rfl ⟨rfl, (by with_reducible repeat (first | exact ex_refl _ | exact ex_more9 | apply ex_alloc | apply ex_plus | apply ex_drew | apply ex_drewN))⟩

theorem checkNd_at (ga ka na ma ta : Option Addr) (gn gc kn kc nn nc mn mc tn tc : Nat) (r0 r1 : Int) {h : NH} {n : Nd} {w : World} (hN : NodeAt w h n) {b : Bool} (hb : mayNd mn tn n = b) :
    Calls Tryz.prog 18 #[.agg #[.slice ga gn gc, .slice ka kn kc, .slice na nn nc, .slice ma mn mc, .slice ta tn tc, .int .i64 r0, .int .i64 r1], vN h] w fun e w' => e = .returned (.int .i64 (if b then 0 else 8)) ∧ ∃ y, w' = plus w y := by
  obtain ⟨⟨ak, ⟨⟨⟨am0, am1, am2⟩, ⟨am3, am4, am5⟩, ⟨am6, am7, am8⟩⟩, ⟨am9, am10, am11⟩⟩, ao, ⟨ac0, ac1, ac2⟩, ae, ⟨as0, as1, as2, as3, as4, ⟨as5, as6, as7, as8, as9, as10, as11, as12, as13⟩⟩⟩, aa, an, ax⟩ := h
  obtain ⟨f, far⟩ := n
  obtain rfl := hN.f
  exact checkNd_calls ga ka na ma ta gn gc kn kc nn nc mn mc tn tc r0 r1 _ _ _ _ _ _ _ _ _ _ _ _ _ _ _ _ _ _ _ _ _ _ _ _ _ _ _ _ _ _ _ _ _ _ _ far w hN.b hN.lay hN.le hb

/-- may the meshes and textures be? -/
def mayTp (t : Tp) : Bool := mayT t.w t.h t.l.length

def edMsOk (m : Ms) : Bool := decide (msErr m = 0)

def storesOk (s : Sc) : Bool := s.ms.all edMsOk && (s.ts.all mayTp && (decide (s.ms.length ≤ 32) && decide (s.ts.length ≤ 16)))

theorem rcheck_at {w : World} {h : MH} {hs : List PH} {m : Ms} (hm : MeshAt w h hs m) : Calls Tryz.prog 142 #[.agg #[.slice h.va h.vn h.vc, .slice h.ua h.un h.uc, .slice h.pa h.pn h.pc]] w fun e w' => e = .returned (.int .i64 (msErr m)) ∧ Below w.heap.size w w' :=
  rcheck_calls _ _ _ _ _ _ _ _ _ hs m w hm

theorem texMay {w : World} {h : TH} {t : Tp} (a : TexAt w h t) : mayT h.w h.h h.n = mayTp t := by rw [mayTp, a.we, a.he, a.tx.lay.len]

set_option maxHeartbeats 4000000 in
theorem stores_calls (h : SH) (x : SX) (s : Sc) (w : World) (hR : RestAt w h x s) :
    Calls Tryz.prog 89 #[vS h] w fun e w' => e = .returned (.bool (storesOk s)) ∧ ∃ y, w' = plus w y := by
  obtain ⟨ga, gn, gc, ka, kn, kc, na, nn, nc, ma, mn, mc, ta, tn, tc, r0, r1⟩ := h
  have ml := hR.ml
  have ms := hR.ms
  have tl := hR.tl
  have ts := hR.ts
  have n2 := hR.n2
  have n3 := hR.n3
  simp only at ml ms tl ts n2 n3
  clear hR
  have mlen := ml.len
  have mlen2 := ms.len
  have tlen := tl.len
  have tlen2 := ts.len
  unfold vS
  simp only
  go_enter Tryz.func89, Tryz.ntmps89
  go_wp2
  go_loopw [3] (fun i wr => ∃ k : Nat, k ≤ mn ∧ i = .int .i64 k ∧ (∀ j, j < k → edMsOk (nth ms0 s.ms j) = true) ∧ ∃ y, wr = plus (w.alloc (.cells #[.slice ga gn gc, .slice ka kn kc, .slice na nn nc, .slice ma mn mc, .slice ta tn tc, .int .i64 r0, .int .i64 r1] 34)) y) (fun i _ => mn - (intOf i).toNat)
  case atStart => exact ⟨0, Nat.zero_le _, rfl, fun j hj => by omega, (by with_reducible repeat (first | exact ex_refl _ | exact ex_more9 | apply ex_alloc | apply ex_plus | apply ex_drew | apply ex_drewN))⟩
  case round =>
    obtain ⟨k, hk, rfl, hs, y, rfl⟩ := hrel
    by_cases hkl : k < mn
    · obtain ⟨g, off, rfl, hg, hcell⟩ := ml.some (by omega)
      obtain ⟨c0, c1, c2⟩ := cellMh mlen hcell hkl
      have hone := ms.one k (by omega)
      have ik : (k : Int) < (mn : Int) := by omega
      obtain ⟨er, her⟩ : ∃ er, msErr (nth ms0 s.ms k) = er := ⟨_, rfl⟩
      by_cases he : er = 0
      · have hok : edMsOk (nth ms0 s.ms k) = true := by simp [edMsOk, her, he]
        subst he
        replace hok := Hush9.mk hok
        go_wp2_with (go_at_call 142; refine (plus_post (rcheck_at (hone.ex (by with_reducible repeat (first | exact ex_refl _ | exact ex_more9 | apply ex_alloc | apply ex_plus | apply ex_drew | apply ex_drewN))))).mono ?_; rintro e w' ⟨rfl, nx, rfl⟩; rw [her])
        go_roundw
        case rel => exact ⟨k + 1, by omega, by go_num, upto_succ9 hs hok.it, (by with_reducible repeat (first | exact ex_refl _ | exact ex_more9 | apply ex_alloc | apply ex_plus | apply ex_drew | apply ex_drewN))⟩
        case measure => simp [intOf]; omega
      · have hok : edMsOk (nth ms0 s.ms k) = false := by simp [edMsOk, her, he]
        replace hok := Hush9.mk hok
        go_wp2_with (go_at_call 142; refine (plus_post (rcheck_at (hone.ex (by with_reducible repeat (first | exact ex_refl _ | exact ex_more9 | apply ex_alloc | apply ex_plus | apply ex_drew | apply ex_drewN))))).mono ?_; rintro e w' ⟨rfl, nx, rfl⟩; rw [her])
        go_ret
        exact ⟨by rw [show storesOk s = false by rw [storesOk, all_not (k := k) (by omega) hok.it]; rfl]; rfl, (by with_reducible repeat (first | exact ex_refl _ | exact ex_more9 | apply ex_alloc | apply ex_plus | apply ex_drew | apply ex_drewN))⟩
    · have ik : ¬ (k : Int) < (mn : Int) := by omega
      obtain rfl : mn = k := by omega
      have hall : s.ms.all edMsOk = true := all_yes (fun j hj => hs j (by omega))
      clear hs
      replace hall := Hush9.mk hall
      go_wp2
      go_loopw [4] (fun i wr => ∃ k : Nat, k ≤ tn ∧ i = .int .i64 k ∧ (∀ j, j < k → mayTp (nth tp0 s.ts j) = true) ∧ ∃ y, wr = plus (w.alloc (.cells #[.slice ga gn gc, .slice ka kn kc, .slice na nn nc, .slice ma mn mc, .slice ta tn tc, .int .i64 r0, .int .i64 r1] 34)) y) (fun i _ => tn - (intOf i).toNat)
      case atStart => exact ⟨0, Nat.zero_le _, rfl, fun j hj => by omega, (by with_reducible repeat (first | exact ex_refl _ | exact ex_more9 | apply ex_alloc | apply ex_plus | apply ex_drew | apply ex_drewN))⟩
      case round =>
        obtain ⟨k2, hk2, rfl, hs2, y2, rfl⟩ := hrel
        by_cases hkl2 : k2 < tn
        · obtain ⟨g, off, rfl, hg, hcell⟩ := tl.some (by omega)
          obtain ⟨c0, c1, c2⟩ := cellTh tlen hcell hkl2
          have hmt := texMay (ts.one k2 (by omega))
          have ik2 : (k2 : Int) < (tn : Int) := by omega
          cases hok : mayTp (nth tp0 s.ts k2)
          · rw [hok] at hmt
            replace hok := Hush9.mk hok
            go_wp2_with (go_at_call 143; refine (rmay9_is hmt).mono ?_; rintro e w' ⟨rfl, nx, rfl⟩)
            go_ret
            exact ⟨by rw [show storesOk s = false by rw [storesOk, all_not (l := s.ts) (k := k2) (by omega) hok.it]; simp]; rfl, (by with_reducible repeat (first | exact ex_refl _ | exact ex_more9 | apply ex_alloc | apply ex_plus | apply ex_drew | apply ex_drewN))⟩
          · rw [hok] at hmt
            replace hok := Hush9.mk hok
            go_wp2_with (go_at_call 143; refine (rmay9_is hmt).mono ?_; rintro e w' ⟨rfl, nx, rfl⟩)
            go_roundw
            case rel => exact ⟨k2 + 1, by omega, by go_num, upto_succ9 hs2 hok.it, (by with_reducible repeat (first | exact ex_refl _ | exact ex_more9 | apply ex_alloc | apply ex_plus | apply ex_drew | apply ex_drewN))⟩
            case measure => simp [intOf]; omega
        · have ik2 : ¬ (k2 : Int) < (tn : Int) := by omega
          obtain rfl : tn = k2 := by omega
          have hall2 : s.ts.all mayTp = true := all_yes (fun j hj => hs2 j (by omega))
          have hres : storesOk s = (decide (mn ≤ 32) && decide (tn ≤ 16)) := by rw [storesOk, hall.it, hall2, ← mlen2, mlen, ← tlen2, tlen]; simp
          clear hs2
          replace hall2 := Hush9.mk hall2
          replace hres := Hush9.mk hres
          by_cases h32 : mn ≤ 32
          · have i32 : (mn : Int) ≤ 32 := by omega
            by_cases h16 : tn ≤ 16
            · have i16 : (tn : Int) ≤ 16 := by omega
              go_wp2
              go_ret
              exact ⟨by rw [hres.it, decide_eq_true h32, decide_eq_true h16]; rfl, (by with_reducible repeat (first | exact ex_refl _ | exact ex_more9 | apply ex_alloc | apply ex_plus | apply ex_drew | apply ex_drewN))⟩
            · have i16 : ¬ (tn : Int) ≤ 16 := by omega
              go_wp2
              go_ret
              exact ⟨by rw [hres.it, decide_eq_true h32, decide_eq_false h16]; rfl, (by with_reducible repeat (first | exact ex_refl _ | exact ex_more9 | apply ex_alloc | apply ex_plus | apply ex_drew | apply ex_drewN))⟩
          · have i32 : ¬ (mn : Int) ≤ 32 := by omega
            go_wp2
            go_ret
            exact ⟨by rw [hres.it, decide_eq_false h32]; rfl, (by with_reducible repeat (first | exact ex_refl _ | exact ex_more9 | apply ex_alloc | apply ex_plus | apply ex_drew | apply ex_drewN))⟩

end

section


open Go.RowKit Go.ChangeShapes Go.WideShapes Go.ChangeAt

set_option linter.unusedSimpArgs false

set_option linter.unusedVariables false

attribute [local go_sem] plus_size plus_drew dn_set dn_alloc dn_plus plus_dn cell_plus frozen_plus set_plus cell_alloc frozen_alloc set_alloc

set_option maxRecDepth 100000 in
set_option maxHeartbeats 4000000 in
theorem lsameNd_calls (ak am0 am1 am2 am3 am4 am5 am6 am7 am8 am9 am10 am11 ao ac0 ac1 ac2 ae as0 as1 as2 as3 as4 as5 as6 as7 as8 as9 as10 as11 as13 : Int) (as12 : Bool) (aa : Option Addr) (an ax : Nat) (af : List Int) (bk bm0 bm1 bm2 bm3 bm4 bm5 bm6 bm7 bm8 bm9 bm10 bm11 bo bc0 bc1 bc2 be bs0 bs1 bs2 bs3 bs4 bs5 bs6 bs7 bs8 bs9 bs10 bs11 bs13 : Int) (bs12 : Bool) (ba : Option Addr) (bn bx : Nat) (bf : List Int) (w : World) (hl : Lay fI w aa an af) (hl2 : Lay fI w ba bn bf) (hn : an ≤ 10000) (hn2 : bn ≤ 10000) :
    Calls Tryz.prog 48 #[.agg (List.toArray (.int .u8 ak :: .int .i64 am0 :: .int .i64 am1 :: .int .i64 am2 :: .int .i64 am3 :: .int .i64 am4 :: .int .i64 am5 :: .int .i64 am6 :: .int .i64 am7 :: .int .i64 am8 :: .int .i64 am9 :: .int .i64 am10 :: .int .i64 am11 :: .int .u16 ao :: .int .i64 ac0 :: .int .i64 ac1 :: .int .i64 ac2 :: .slice aa an ax :: .int .i64 ae :: .int .u8 as0 :: .int .u8 as1 :: .int .u8 as2 :: .int .u8 as3 :: .int .u8 as4 :: .int .u8 as5 :: .int .u8 as6 :: .int .u8 as7 :: .int .u8 as8 :: .int .i64 as9 :: .int .u8 as10 :: .int .i64 as11 :: .bool as12 :: .int .i64 as13 :: [])), .agg (List.toArray (.int .u8 bk :: .int .i64 bm0 :: .int .i64 bm1 :: .int .i64 bm2 :: .int .i64 bm3 :: .int .i64 bm4 :: .int .i64 bm5 :: .int .i64 bm6 :: .int .i64 bm7 :: .int .i64 bm8 :: .int .i64 bm9 :: .int .i64 bm10 :: .int .i64 bm11 :: .int .u16 bo :: .int .i64 bc0 :: .int .i64 bc1 :: .int .i64 bc2 :: .slice ba bn bx :: .int .i64 be :: .int .u8 bs0 :: .int .u8 bs1 :: .int .u8 bs2 :: .int .u8 bs3 :: .int .u8 bs4 :: .int .u8 bs5 :: .int .u8 bs6 :: .int .u8 bs7 :: .int .u8 bs8 :: .int .i64 bs9 :: .int .u8 bs10 :: .int .i64 bs11 :: .bool bs12 :: .int .i64 bs13 :: []))] w fun e w' => e = .returned (.bool (sameNd ⟨⟨ak, ⟨⟨⟨am0, am1, am2⟩, ⟨am3, am4, am5⟩, ⟨am6, am7, am8⟩⟩, ⟨am9, am10, am11⟩⟩, ao, ⟨ac0, ac1, ac2⟩, ae, ⟨as0, as1, as2, as3, as4, ⟨as5, as6, as7, as8, as9, as10, as11, as12, as13⟩⟩⟩, af⟩ ⟨⟨bk, ⟨⟨⟨bm0, bm1, bm2⟩, ⟨bm3, bm4, bm5⟩, ⟨bm6, bm7, bm8⟩⟩, ⟨bm9, bm10, bm11⟩⟩, bo, ⟨bc0, bc1, bc2⟩, be, ⟨bs0, bs1, bs2, bs3, bs4, ⟨bs5, bs6, bs7, bs8, bs9, bs10, bs11, bs12, bs13⟩⟩⟩, bf⟩)) ∧ ∃ y, w' = plus w y := by
  by_cases hk : ak = bk
  rotate_left
  · rw [show sameNd ⟨⟨ak, ⟨⟨⟨am0, am1, am2⟩, ⟨am3, am4, am5⟩, ⟨am6, am7, am8⟩⟩, ⟨am9, am10, am11⟩⟩, ao, ⟨ac0, ac1, ac2⟩, ae, ⟨as0, as1, as2, as3, as4, ⟨as5, as6, as7, as8, as9, as10, as11, as12, as13⟩⟩⟩, af⟩ ⟨⟨bk, ⟨⟨⟨bm0, bm1, bm2⟩, ⟨bm3, bm4, bm5⟩, ⟨bm6, bm7, bm8⟩⟩, ⟨bm9, bm10, bm11⟩⟩, bo, ⟨bc0, bc1, bc2⟩, be, ⟨bs0, bs1, bs2, bs3, bs4, ⟨bs5, bs6, bs7, bs8, bs9, bs10, bs11, bs12, bs13⟩⟩⟩, bf⟩ = false by simp [sameNd, hk]]
    have dk : (ak == bk) = false := by rw [beq_eq_false_iff_ne]; exact hk
    go_enter Tryz.func48, Tryz.ntmps48
    go_wp2_with (go_at_call 93; refine (plus_post (equalI_calls _ _ _ _ _ _ af bf _ (hl.ex (by with_reducible repeat (first | exact ex_refl _ | exact ex_more9 | apply ex_alloc | apply ex_plus | apply ex_drew | apply ex_drewN))) (hl2.ex (by with_reducible repeat (first | exact ex_refl _ | exact ex_more9 | apply ex_alloc | apply ex_plus | apply ex_drew | apply ex_drewN))) hn hn2)).mono ?_; rintro e w' ⟨rfl, nx, rfl⟩)
    exact bodyPost_ret (v := .bool false) (by simp [results, Tryz.results48, go_sem]) rfl ⟨rfl, (by with_reducible repeat (first | exact ex_refl _ | exact ex_more9 | apply ex_alloc | apply ex_plus | apply ex_drew | apply ex_drewN))⟩
  subst hk
  cases hm : eqmt ⟨⟨⟨am0, am1, am2⟩, ⟨am3, am4, am5⟩, ⟨am6, am7, am8⟩⟩, ⟨am9, am10, am11⟩⟩ ⟨⟨⟨bm0, bm1, bm2⟩, ⟨bm3, bm4, bm5⟩, ⟨bm6, bm7, bm8⟩⟩, ⟨bm9, bm10, bm11⟩⟩
  · rw [show sameNd ⟨⟨ak, ⟨⟨⟨am0, am1, am2⟩, ⟨am3, am4, am5⟩, ⟨am6, am7, am8⟩⟩, ⟨am9, am10, am11⟩⟩, ao, ⟨ac0, ac1, ac2⟩, ae, ⟨as0, as1, as2, as3, as4, ⟨as5, as6, as7, as8, as9, as10, as11, as12, as13⟩⟩⟩, af⟩ ⟨⟨ak, ⟨⟨⟨bm0, bm1, bm2⟩, ⟨bm3, bm4, bm5⟩, ⟨bm6, bm7, bm8⟩⟩, ⟨bm9, bm10, bm11⟩⟩, bo, ⟨bc0, bc1, bc2⟩, be, ⟨bs0, bs1, bs2, bs3, bs4, ⟨bs5, bs6, bs7, bs8, bs9, bs10, bs11, bs12, bs13⟩⟩⟩, bf⟩ = false by simp [sameNd, hm]]
    have qM := eqM_is hm
    go_enter Tryz.func48, Tryz.ntmps48
    go_wp2_with (go_at_call 93; refine (plus_post (equalI_calls _ _ _ _ _ _ af bf _ (hl.ex (by with_reducible repeat (first | exact ex_refl _ | exact ex_more9 | apply ex_alloc | apply ex_plus | apply ex_drew | apply ex_drewN))) (hl2.ex (by with_reducible repeat (first | exact ex_refl _ | exact ex_more9 | apply ex_alloc | apply ex_plus | apply ex_drew | apply ex_drewN))) hn hn2)).mono ?_; rintro e w' ⟨rfl, nx, rfl⟩)
    exact bodyPost_ret (v := .bool false) (by simp [results, Tryz.results48, go_sem]) rfl ⟨rfl, (by with_reducible repeat (first | exact ex_refl _ | exact ex_more9 | apply ex_alloc | apply ex_plus | apply ex_drew | apply ex_drewN))⟩
  have qM := eqM_is hm
  by_cases ho : ao = bo
  rotate_left
  · rw [show sameNd ⟨⟨ak, ⟨⟨⟨am0, am1, am2⟩, ⟨am3, am4, am5⟩, ⟨am6, am7, am8⟩⟩, ⟨am9, am10, am11⟩⟩, ao, ⟨ac0, ac1, ac2⟩, ae, ⟨as0, as1, as2, as3, as4, ⟨as5, as6, as7, as8, as9, as10, as11, as12, as13⟩⟩⟩, af⟩ ⟨⟨ak, ⟨⟨⟨bm0, bm1, bm2⟩, ⟨bm3, bm4, bm5⟩, ⟨bm6, bm7, bm8⟩⟩, ⟨bm9, bm10, bm11⟩⟩, bo, ⟨bc0, bc1, bc2⟩, be, ⟨bs0, bs1, bs2, bs3, bs4, ⟨bs5, bs6, bs7, bs8, bs9, bs10, bs11, bs12, bs13⟩⟩⟩, bf⟩ = false by simp [sameNd, ho]]
    have dk : (ao == bo) = false := by rw [beq_eq_false_iff_ne]; exact ho
    go_enter Tryz.func48, Tryz.ntmps48
    go_wp2_with (go_at_call 93; refine (plus_post (equalI_calls _ _ _ _ _ _ af bf _ (hl.ex (by with_reducible repeat (first | exact ex_refl _ | exact ex_more9 | apply ex_alloc | apply ex_plus | apply ex_drew | apply ex_drewN))) (hl2.ex (by with_reducible repeat (first | exact ex_refl _ | exact ex_more9 | apply ex_alloc | apply ex_plus | apply ex_drew | apply ex_drewN))) hn hn2)).mono ?_; rintro e w' ⟨rfl, nx, rfl⟩)
    exact bodyPost_ret (v := .bool false) (by simp [results, Tryz.results48, go_sem]) rfl ⟨rfl, (by with_reducible repeat (first | exact ex_refl _ | exact ex_more9 | apply ex_alloc | apply ex_plus | apply ex_drew | apply ex_drewN))⟩
  subst ho
  cases hc : eqv ⟨ac0, ac1, ac2⟩ ⟨bc0, bc1, bc2⟩
  · rw [show sameNd ⟨⟨ak, ⟨⟨⟨am0, am1, am2⟩, ⟨am3, am4, am5⟩, ⟨am6, am7, am8⟩⟩, ⟨am9, am10, am11⟩⟩, ao, ⟨ac0, ac1, ac2⟩, ae, ⟨as0, as1, as2, as3, as4, ⟨as5, as6, as7, as8, as9, as10, as11, as12, as13⟩⟩⟩, af⟩ ⟨⟨ak, ⟨⟨⟨bm0, bm1, bm2⟩, ⟨bm3, bm4, bm5⟩, ⟨bm6, bm7, bm8⟩⟩, ⟨bm9, bm10, bm11⟩⟩, ao, ⟨bc0, bc1, bc2⟩, be, ⟨bs0, bs1, bs2, bs3, bs4, ⟨bs5, bs6, bs7, bs8, bs9, bs10, bs11, bs12, bs13⟩⟩⟩, bf⟩ = false by simp [sameNd, hc]]
    have qV := eqV_is hc
    go_enter Tryz.func48, Tryz.ntmps48
    go_wp2_with (go_at_call 93; refine (plus_post (equalI_calls _ _ _ _ _ _ af bf _ (hl.ex (by with_reducible repeat (first | exact ex_refl _ | exact ex_more9 | apply ex_alloc | apply ex_plus | apply ex_drew | apply ex_drewN))) (hl2.ex (by with_reducible repeat (first | exact ex_refl _ | exact ex_more9 | apply ex_alloc | apply ex_plus | apply ex_drew | apply ex_drewN))) hn hn2)).mono ?_; rintro e w' ⟨rfl, nx, rfl⟩)
    exact bodyPost_ret (v := .bool false) (by simp [results, Tryz.results48, go_sem]) rfl ⟨rfl, (by with_reducible repeat (first | exact ex_refl _ | exact ex_more9 | apply ex_alloc | apply ex_plus | apply ex_drew | apply ex_drewN))⟩
  have qV := eqV_is hc
  cases hf : sameI af bf
  · rw [show sameNd ⟨⟨ak, ⟨⟨⟨am0, am1, am2⟩, ⟨am3, am4, am5⟩, ⟨am6, am7, am8⟩⟩, ⟨am9, am10, am11⟩⟩, ao, ⟨ac0, ac1, ac2⟩, ae, ⟨as0, as1, as2, as3, as4, ⟨as5, as6, as7, as8, as9, as10, as11, as12, as13⟩⟩⟩, af⟩ ⟨⟨ak, ⟨⟨⟨bm0, bm1, bm2⟩, ⟨bm3, bm4, bm5⟩, ⟨bm6, bm7, bm8⟩⟩, ⟨bm9, bm10, bm11⟩⟩, ao, ⟨bc0, bc1, bc2⟩, be, ⟨bs0, bs1, bs2, bs3, bs4, ⟨bs5, bs6, bs7, bs8, bs9, bs10, bs11, bs12, bs13⟩⟩⟩, bf⟩ = false by simp [sameNd, hf]]
    go_enter Tryz.func48, Tryz.ntmps48
    go_wp2_with (go_at_call 93; refine (plus_post (equalI_calls _ _ _ _ _ _ af bf _ (hl.ex (by with_reducible repeat (first | exact ex_refl _ | exact ex_more9 | apply ex_alloc | apply ex_plus | apply ex_drew | apply ex_drewN))) (hl2.ex (by with_reducible repeat (first | exact ex_refl _ | exact ex_more9 | apply ex_alloc | apply ex_plus | apply ex_drew | apply ex_drewN))) hn hn2)).mono ?_; rintro e w' ⟨rfl, nx, rfl⟩)
    exact bodyPost_ret (v := .bool false) (by simp [results, Tryz.results48, go_sem]) rfl ⟨rfl, (by with_reducible repeat (first | exact ex_refl _ | exact ex_more9 | apply ex_alloc | apply ex_plus | apply ex_drew | apply ex_drewN))⟩
  by_cases he : ae = be
  rotate_left
  · rw [show sameNd ⟨⟨ak, ⟨⟨⟨am0, am1, am2⟩, ⟨am3, am4, am5⟩, ⟨am6, am7, am8⟩⟩, ⟨am9, am10, am11⟩⟩, ao, ⟨ac0, ac1, ac2⟩, ae, ⟨as0, as1, as2, as3, as4, ⟨as5, as6, as7, as8, as9, as10, as11, as12, as13⟩⟩⟩, af⟩ ⟨⟨ak, ⟨⟨⟨bm0, bm1, bm2⟩, ⟨bm3, bm4, bm5⟩, ⟨bm6, bm7, bm8⟩⟩, ⟨bm9, bm10, bm11⟩⟩, ao, ⟨bc0, bc1, bc2⟩, be, ⟨bs0, bs1, bs2, bs3, bs4, ⟨bs5, bs6, bs7, bs8, bs9, bs10, bs11, bs12, bs13⟩⟩⟩, bf⟩ = false by simp [sameNd, he]]
    have dk : (ae == be) = false := by rw [beq_eq_false_iff_ne]; exact he
    go_enter Tryz.func48, Tryz.ntmps48
    go_wp2_with (go_at_call 93; refine (plus_post (equalI_calls _ _ _ _ _ _ af bf _ (hl.ex (by with_reducible repeat (first | exact ex_refl _ | exact ex_more9 | apply ex_alloc | apply ex_plus | apply ex_drew | apply ex_drewN))) (hl2.ex (by with_reducible repeat (first | exact ex_refl _ | exact ex_more9 | apply ex_alloc | apply ex_plus | apply ex_drew | apply ex_drewN))) hn hn2)).mono ?_; rintro e w' ⟨rfl, nx, rfl⟩)
    exact bodyPost_ret (v := .bool false) (by simp [results, Tryz.results48, go_sem]) rfl ⟨rfl, (by with_reducible repeat (first | exact ex_refl _ | exact ex_more9 | apply ex_alloc | apply ex_plus | apply ex_drew | apply ex_drewN))⟩
  subst he
  cases hs : eqsy ⟨as0, as1, as2, as3, as4, ⟨as5, as6, as7, as8, as9, as10, as11, as12, as13⟩⟩ ⟨bs0, bs1, bs2, bs3, bs4, ⟨bs5, bs6, bs7, bs8, bs9, bs10, bs11, bs12, bs13⟩⟩
  · rw [show sameNd ⟨⟨ak, ⟨⟨⟨am0, am1, am2⟩, ⟨am3, am4, am5⟩, ⟨am6, am7, am8⟩⟩, ⟨am9, am10, am11⟩⟩, ao, ⟨ac0, ac1, ac2⟩, ae, ⟨as0, as1, as2, as3, as4, ⟨as5, as6, as7, as8, as9, as10, as11, as12, as13⟩⟩⟩, af⟩ ⟨⟨ak, ⟨⟨⟨bm0, bm1, bm2⟩, ⟨bm3, bm4, bm5⟩, ⟨bm6, bm7, bm8⟩⟩, ⟨bm9, bm10, bm11⟩⟩, ao, ⟨bc0, bc1, bc2⟩, ae, ⟨bs0, bs1, bs2, bs3, bs4, ⟨bs5, bs6, bs7, bs8, bs9, bs10, bs11, bs12, bs13⟩⟩⟩, bf⟩ = false by simp [sameNd, hs]]
    have qS := eqSy_is hs
    go_enter Tryz.func48, Tryz.ntmps48
    go_wp2_with (go_at_call 93; refine (plus_post (equalI_calls _ _ _ _ _ _ af bf _ (hl.ex (by with_reducible repeat (first | exact ex_refl _ | exact ex_more9 | apply ex_alloc | apply ex_plus | apply ex_drew | apply ex_drewN))) (hl2.ex (by with_reducible repeat (first | exact ex_refl _ | exact ex_more9 | apply ex_alloc | apply ex_plus | apply ex_drew | apply ex_drewN))) hn hn2)).mono ?_; rintro e w' ⟨rfl, nx, rfl⟩)
    exact bodyPost_ret (v := .bool false) (by simp [results, Tryz.results48, go_sem]) rfl ⟨rfl, (by with_reducible repeat (first | exact ex_refl _ | exact ex_more9 | apply ex_alloc | apply ex_plus | apply ex_drew | apply ex_drewN))⟩
  have qS := eqSy_is hs
  rw [show sameNd ⟨⟨ak, ⟨⟨⟨am0, am1, am2⟩, ⟨am3, am4, am5⟩, ⟨am6, am7, am8⟩⟩, ⟨am9, am10, am11⟩⟩, ao, ⟨ac0, ac1, ac2⟩, ae, ⟨as0, as1, as2, as3, as4, ⟨as5, as6, as7, as8, as9, as10, as11, as12, as13⟩⟩⟩, af⟩ ⟨⟨ak, ⟨⟨⟨bm0, bm1, bm2⟩, ⟨bm3, bm4, bm5⟩, ⟨bm6, bm7, bm8⟩⟩, ⟨bm9, bm10, bm11⟩⟩, ao, ⟨bc0, bc1, bc2⟩, ae, ⟨bs0, bs1, bs2, bs3, bs4, ⟨bs5, bs6, bs7, bs8, bs9, bs10, bs11, bs12, bs13⟩⟩⟩, bf⟩ = true by simp [sameNd, hm, hc, hf, hs]]
  go_enter Tryz.func48, Tryz.ntmps48
  go_wp2_with (go_at_call 93; refine (plus_post (equalI_calls _ _ _ _ _ _ af bf _ (hl.ex (by with_reducible repeat (first | exact ex_refl _ | exact ex_more9 | apply ex_alloc | apply ex_plus | apply ex_drew | apply ex_drewN))) (hl2.ex (by with_reducible repeat (first | exact ex_refl _ | exact ex_more9 | apply ex_alloc | apply ex_plus | apply ex_drew | apply ex_drewN))) hn hn2)).mono ?_; rintro e w' ⟨rfl, nx, rfl⟩)
  exact bodyPost_ret (v := .bool true) (by simp [results, Tryz.results48, go_sem]) rfl ⟨rfl, (by with_reducible repeat (first | exact ex_refl _ | exact ex_more9 | apply ex_alloc | apply ex_plus | apply ex_drew | apply ex_drewN))⟩

theorem lsameNd_at {h h2 : NH} {n n2 : Nd} {w : World} (hN : NodeAt w h n) (hN2 : NodeAt w h2 n2) (s1 : h.n ≤ 10000) (s2 : h2.n ≤ 10000) {b : Bool} (hb : sameNd n n2 = b) :
    Calls Tryz.prog 48 #[vN h, vN h2] w fun e w' => e = .returned (.bool b) ∧ ∃ y, w' = plus w y := by
  subst hb
  obtain ⟨⟨ak, ⟨⟨⟨am0, am1, am2⟩, ⟨am3, am4, am5⟩, ⟨am6, am7, am8⟩⟩, ⟨am9, am10, am11⟩⟩, ao, ⟨ac0, ac1, ac2⟩, ae, ⟨as0, as1, as2, as3, as4, ⟨as5, as6, as7, as8, as9, as10, as11, as12, as13⟩⟩⟩, aa, an, ax⟩ := h
  obtain ⟨⟨bk, ⟨⟨⟨bm0, bm1, bm2⟩, ⟨bm3, bm4, bm5⟩, ⟨bm6, bm7, bm8⟩⟩, ⟨bm9, bm10, bm11⟩⟩, bo, ⟨bc0, bc1, bc2⟩, be, ⟨bs0, bs1, bs2, bs3, bs4, ⟨bs5, bs6, bs7, bs8, bs9, bs10, bs11, bs12, bs13⟩⟩⟩, ba, bn, bx⟩ := h2
  obtain ⟨f, far⟩ := n
  obtain ⟨f2, far2⟩ := n2
  obtain rfl := hN.f
  obtain rfl := hN2.f
  exact lsameNd_calls _ _ _ _ _ _ _ _ _ _ _ _ _ _ _ _ _ _ _ _ _ _ _ _ _ _ _ _ _ _ _ _ _ _ _ far _ _ _ _ _ _ _ _ _ _ _ _ _ _ _ _ _ _ _ _ _ _ _ _ _ _ _ _ _ _ _ _ _ _ _ far2 w hN.lay hN2.lay s1 s2

end

section


open Go.RowKit

section

variable {P : Program}

theorem run_loadVar_part (w : World) (g off : Nat) (ty : TypeId) (cs : List Value) (d : TypeDesc) (hc : ∀ j v, cs[j]? = some v → w.cell? ⟨g, off + j, none⟩ = some v)
    (hu : P.underlying ty = some d) (hd : (match d with | .struct _ | .array _ _ => true | _ => false) = true) (hi : (P.info? ty).map (·.size) = some cs.length) :
    (loadVar ty ⟨g, off, none⟩).run P w = .ok (.agg cs.toArray) w := by
  have hl : (loadCells ⟨g, off, none⟩ cs.length).run P w = .ok cs.toArray w :=
    run_loadCells_list (P := P) w ⟨g, off, none⟩ cs (fun j v hv => by rw [add_none]; exact hc j v hv)
  cases hq : P.info? ty with
  | none => simp [hq] at hi
  | some i =>
    have hs : i.size = cs.length := by simpa [hq] using hi
    have hagg : (isAgg ty).run P w = .ok true w := by
      unfold isAgg
      rw [Sem.run_bind, run_underlying hu w]
      cases d <;> simp_all
    simp [loadVar, Sem.run_bind, hagg, sizeOf, typeInfo, hq, hs, hl]

variable {ops : Array Oper} {rest : List Oper} {o : Oper} {a : Act} {w : World}

theorem exec_load_part (ty : TypeId) (x : Operand) (ho : o.op = .load ty x) (g off : Nat) (hx : a.eval x = .pointer (some ⟨g, off, none⟩)) (cs : List Value) (d : TypeDesc) (hc : ∀ j v, cs[j]? = some v → w.cell? ⟨g, off + j, none⟩ = some v)
    (hu : P.underlying ty = some d) (hd : (match d with | .struct _ | .array _ _ => true | _ => false) = true) (hi : (P.info? ty).map (·.size) = some cs.length) :
    (execOp a.eval o).run P w = .ok (.value (.agg cs.toArray)) w := by
  unfold execOp
  simp only [ho, hx, Instr.loadAt, Instr.sureAddr, Sem.run_bind, Sem.run_pure, Result.andThen_ok, run_loadVar_part w g off ty cs d hc hu hd hi]

theorem wpList_load_part {Q : Exit → Act → World → Prop} (hgd : o.guard = none) (ty : TypeId) (x : Operand) (ho : o.op = .load ty x) (g off : Nat) (hx : a.eval x = .pointer (some ⟨g, off, none⟩)) (cs : List Value) (d : TypeDesc) (hc : ∀ j v, cs[j]? = some v → w.cell? ⟨g, off + j, none⟩ = some v)
    (hu : P.underlying ty = some d) (hd : (match d with | .struct _ | .array _ _ => true | _ => false) = true) (hi : (P.info? ty).map (·.size) = some cs.length)
    (h : wpList P ops Q rest (a.put o.dst (.agg cs.toArray)) w) : wpList P ops Q (o :: rest) a w :=
  wpList_plain hgd fun _ hK => by
    unfold Oper.wp
    rw [exec_load_part ty x ho g off hx cs d hc hu hd hi]
    exact hK _ _ h

theorem wpQuiet_load_part {C : World → Prop} {Q : Act → Prop} (hw : Region.wanted o (yielded ops a.tmps) = true) (ty : TypeId) (x : Operand) (ho : o.op = .load ty x) (g off : Nat) (hx : a.eval x = .pointer (some ⟨g, off, none⟩)) (cs : List Value) (d : TypeDesc) (hc : ∀ w, C w → ∀ j v, cs[j]? = some v → w.cell? ⟨g, off + j, none⟩ = some v)
    (hu : P.underlying ty = some d) (hd : (match d with | .struct _ | .array _ _ => true | _ => false) = true) (hi : (P.info? ty).map (·.size) = some cs.length)
    (h : wpQuiet P ops C Q rest (a.put o.dst (.agg cs.toArray))) : wpQuiet P ops C Q (o :: rest) a :=
  BigFrame.wpQuiet_want hw fun _ hK => ⟨_, fun w hC => by
    unfold Oper.quietAt
    rw [exec_load_part ty x ho g off hx cs d (hc w hC) hu hd hi]
    exact ⟨rfl, rfl⟩, hK _ h⟩

end

end

section


open Go.RowKit

set_option linter.unusedVariables false

section

variable {P : Program}

/-- cells put into a block from a place on -/
def partOf (cur : Array Value) (i : Nat) (vs : List Value) : Array Value := (cur.toList.take i ++ (vs ++ cur.toList.drop (i + vs.length))).toArray

theorem partOf_size {cur : Array Value} {i : Nat} {vs : List Value} (h : i + vs.length ≤ cur.size) : (partOf cur i vs).size = cur.size := by
  unfold partOf
  simp only [List.size_toArray, List.length_append, List.length_take, List.length_drop, Array.length_toList]
  omega

theorem run_storeCells_part (g off : Nat) (t : TypeId) : ∀ (vs : List Value) (i : Nat) (cur : Array Value) (w : World), w.heap[g]? = some (.cells cur t (0, 0)) → off + i + vs.length ≤ cur.size → (∀ v ∈ vs, v.oneCell' = true) →
    (storeCells ⟨g, off, none⟩ vs i).run P w = .ok () (w.setRow g (partOf cur (off + i) vs))
  | [], i, cur, w, hg, hl, _ => by
    have : partOf cur (off + i) [] = cur := by
      unfold partOf
      simp
    have hlt : g < w.heap.size := (Array.getElem?_eq_some_iff.1 hg).1
    have hv : w.heap[g] = .cells cur t (0, 0) := (Array.getElem?_eq_some_iff.1 hg).2
    simp only [storeCells, this]
    show Result.ok () w = _
    congr 1
    unfold World.setRow
    cases w with
    | mk heap tape drawn os output =>
      congr 1
      apply Array.ext
      · simp
      · intro k h1 h2
        simp only [Array.getElem_modify]
        split
        · rename_i hk; subst hk; simp at hv; simp [hv]
        · rfl
  | v :: rest, i, cur, w, hg, hl, h1 => by
    have hi : off + i < cur.size := by simp at hl; omega
    have hadd : (⟨g, off, none⟩ : Addr).add i = ⟨g, off + i, none⟩ := by unfold Addr.add; split <;> simp_all
    have hcell : w.cell? ⟨g, off + i, none⟩ = some cur[off + i] := by simp [World.cell?, hg, hi]
    have hfro : w.frozen? ⟨g, off + i, none⟩ = false := by simp [World.frozen?, hg]
    have hst : (store ((⟨g, off, none⟩ : Addr).add i) v).run P w = .ok () (w.setRow g (cur.setIfInBounds (off + i) v)) := by
      rw [hadd, run_store P w _ v _ (h1 v (by simp)), hcell]
      simp [hfro, setCell_eq_setRow w g (off + i) cur t (0, 0) v hg]
    have ih := run_storeCells_part g off t rest (i + 1) (cur.setIfInBounds (off + i) v) (w.setRow g (cur.setIfInBounds (off + i) v)) (setRow_heap w g cur _ t _ hg) (by simp at hl ⊢; omega) (fun x hx => h1 x (by simp [hx]))
    simp only [storeCells, Sem.run_bind, hst, Result.andThen_ok, ih, setRow_setRow]
    congr 2
    unfold partOf
    congr 1
    apply List.ext_getElem?
    intro k
    simp only [Array.toList_setIfInBounds, List.getElem?_append, List.length_take, List.length_set, Array.length_toList, List.getElem?_take, List.getElem?_drop, List.getElem?_set, List.length_cons, List.getElem?_cons]
    rw [show min (off + (i + 1)) cur.size = off + i + 1 by omega, show min (off + i) cur.size = off + i by omega]
    by_cases hk : k < off + i
    · simp [hk, show k < off + (i + 1) by omega, show k < off + i + 1 by omega, show ¬ off + i = k by omega]
    · by_cases hk2 : k = off + i
      · subst hk2
        simp [hi, show off + i < off + (i + 1) by omega]
      · have e1 : ¬ k < off + i + 1 := by omega
        simp only [hk, e1, if_false]
        by_cases hk3 : k - (off + i + 1) < rest.length
        · simp [hk3, show k - (off + i) - 1 = k - (off + i + 1) by omega, show k - (off + i) < rest.length + 1 by omega, show ¬ k - (off + i) = 0 by omega]
        · simp [hk3, show ¬ k - (off + i) < rest.length + 1 by omega, show ¬ off + i = off + (i + 1) + rest.length + (k - (off + i + 1) - rest.length) by omega]
          congr 1
          omega

theorem run_storeVar_part (w : World) (g off : Nat) (t ty : TypeId) (cur : Array Value) (cs : List Value) (hg : w.heap[g]? = some (.cells cur t (0, 0))) (hi : (P.info? ty).map (·.size) = some cs.length)
    (ho : off + cs.length ≤ cur.size) (h1 : ∀ v ∈ cs, v.oneCell' = true) :
    (storeVar ty ⟨g, off, none⟩ (.agg cs.toArray)).run P w = .ok () (w.setRow g (partOf cur off cs)) := by
  have := run_storeCells_part (P := P) g off t cs 0 cur w hg (by omega) h1
  rw [Nat.add_zero] at this
  cases hq : P.info? ty with
  | none => simp [hq] at hi
  | some i =>
    have hs : cs.length = i.size := by simp [hq] at hi; omega
    simp [storeVar, sizeOf, typeInfo, hq, Value.cells, hs, this]

variable {ops : Array Oper} {rest : List Oper} {o : Oper} {a : Act} {w : World}

theorem wpList_store_part {Q : Exit → Act → World → Prop} (hgd : o.guard = none) (ty : TypeId) (x y : Operand) (ho : o.op = .store ty x y) (g off : Nat) (cs : List Value) (hx : a.eval x = .pointer (some ⟨g, off, none⟩)) (hy : a.eval y = .agg cs.toArray)
    (t : TypeId) (cur : Array Value) (hg : w.heap[g]? = some (.cells cur t (0, 0))) (hi : (P.info? ty).map (·.size) = some cs.length) (hn : off + cs.length ≤ cur.size) (h1 : ∀ v ∈ cs, v.oneCell' = true)
    (h : wpList P ops Q rest (a.put o.dst undef) (w.setRow g (partOf cur off cs))) : wpList P ops Q (o :: rest) a w :=
  wpList_plain hgd fun _ hK => by
    unfold Oper.wp execOp
    simp only [ho, hx, hy, Instr.storeAt, Instr.sureAddr, Sem.run_bind, Sem.run_pure, Result.andThen_ok, run_storeVar_part w g off t ty cur cs hg hi hn h1]
    exact hK _ _ h

/-- a struct read whole out of a list's cells, in a region that draws and only reads, guarded or not -/
theorem wpQuiet_load_guarded {C : World → Prop} {Q : Act → Prop} (ty : TypeId) (x : Operand) (ho : o.op = .load ty x) (g off : Nat) (hx : a.eval x = .pointer (some ⟨g, off, none⟩)) (cs : List Value) (d : TypeDesc) (hc : ∀ w, C w → ∀ j v, cs[j]? = some v → w.cell? ⟨g, off + j, none⟩ = some v)
    (hu : P.underlying ty = some d) (hd : (match d with | .struct _ | .array _ _ => true | _ => false) = true) (hi : (P.info? ty).map (·.size) = some cs.length) (hw : Region.wanted o (yielded ops a.tmps) = true)
    (h : wpQuiet P ops C Q rest (a.put o.dst (.agg cs.toArray))) : wpQuiet P ops C Q (o :: rest) a :=
  wpQuiet_load_part hw ty x ho g off hx cs d hc hu hd hi h

/-- a struct stored whole over a box of its own -/
theorem wpList_store_box {Q : Exit → Act → World → Prop} (hgd : o.guard = none) (ty : TypeId) (x y : Operand) (ho : o.op = .store ty x y) (g : Nat) (cs : List Value) (hx : a.eval x = .pointer (some ⟨g, 0, none⟩)) (hy : a.eval y = .agg cs.toArray)
    (t : TypeId) (cur : Array Value) (hg : w.heap[g]? = some (.cells cur t (0, 0))) (hi : (P.info? ty).map (·.size) = some cs.length) (hn : cur.size = cs.length) (h1 : ∀ v ∈ cs, v.oneCell' = true)
    (h : wpList P ops Q rest (a.put o.dst undef) (w.setRow g cs.toArray)) : wpList P ops Q (o :: rest) a w :=
  wpList_store_row hgd ty x y ho g cs.toArray hx hy t cur hg (by simpa using hi) (by simpa using hn) (Array.all_eq_true_iff_forall_mem.2 fun v hv => h1 v (by simpa using hv)) h

end

theorem blk_row_eq {w : World} {g : Nat} {c cs : Array Value} {t : TypeId} (h : w.heap[g]? = some (.cells c t)) : (w.setRow g cs).heap[g]? = some (.cells cs t) := setRow_heap w g c cs t _ h

theorem blk_row_ne {w : World} {g k : Nat} {cs : Array Value} (h : g ≠ k) : (w.setRow g cs).heap[k]? = w.heap[k]? := setRow_other w g k cs (Ne.symm h)

theorem ex_row_new {w T : World} {g : Nat} {cs : Array Value} (hw : ∃ y, w = plus T y) (hg : T.heap.size ≤ g) : ∃ y, w.setRow g cs = plus T y := by
  obtain ⟨y, rfl⟩ := hw
  apply below_plus
  have hb := plus_below T y
  refine ⟨hb.os, hb.tape, hb.output, by rw [setRow_size]; exact hb.size, fun n hn => ?_⟩
  rw [blk_row_ne (by omega)]
  exact hb.block n hn

section

variable {α : Type} {f : α → List Value} {w T : World} {ao : Option Addr} {n cap c g k : Nat} {l : List α} {e e' : TypeId} {cur cs : Array Value}

theorem Own.row_other (h : Own e c f T w ao n cap l) (hb : w.heap[g]? = some (.cells cur e')) (he : e' ≠ e) : Own e c f T (w.setRow g cs) ao n cap l := by
  refine ⟨h.1, h.2.1, h.2.2.imp id ?_⟩
  rintro ⟨k, cp, cu, h1, h2, h3, h4⟩
  refine ⟨k, cp, cu, h1, h2, ?_, h4⟩
  have hne : g ≠ k := by
    intro e2
    subst e2
    rw [hb] at h3
    cases h3
    exact he rfl
  rw [blk_row_ne hne]
  exact h3

/-- a block outside all that is owned -/
theorem Own.row_out (h : Own e c f T w ao n cap l) (hg : g < T.heap.size) : Own e c f T (w.setRow g cs) ao n cap l := by
  refine ⟨h.1, h.2.1, h.2.2.imp id ?_⟩
  rintro ⟨k, cp, cu, h1, h2, h3, h4⟩
  exact ⟨k, cp, cu, h1, h2, by rw [blk_row_ne (by omega)]; exact h3, h4⟩

theorem flat_len (hc : ∀ x, (f x).length = c) (l : List α) : (l.flatMap f).length = l.length * c := by
  induction l with
  | nil => simp
  | cons x l ih => rw [List.flatMap_cons, List.length_append, ih, hc, List.length_cons, Nat.succ_mul, Nat.add_comm]

theorem flat_set (hc : ∀ x, (f x).length = c) (l : List α) (x : α) : ∀ k, k < l.length → (l.set k x).flatMap f = (l.flatMap f).take (k * c) ++ (f x ++ (l.flatMap f).drop (k * c + c)) := by
  induction l with
  | nil => intro k hk; simp at hk
  | cons y l ih =>
    intro k hk
    cases k with
    | zero => simp [hc y]
    | succ k =>
      have hk' : k < l.length := by simpa using hk
      rw [List.set_cons_succ, List.flatMap_cons, ih k hk', List.flatMap_cons, Nat.succ_mul, List.take_append, hc, List.drop_append, hc, List.take_of_length_le (l := f y) (by rw [hc]; omega), show List.drop (k * c + c + c) (f y) = [] from List.drop_eq_nil_of_le (by rw [hc]; omega), List.append_assoc, List.nil_append,
        show k * c + c - c = k * c by omega, show k * c + c + c - c = k * c + c by omega]

theorem Own.set_row (h : Own e c f T w (some ⟨g, 0, none⟩) n cap l) (hb : w.heap[g]? = some (.cells cur e)) (hk : k < n) (hc : ∀ x, (f x).length = c) (x : α) :
    Own e c f T (w.setRow g (partOf cur (k * c) (f x))) (some ⟨g, 0, none⟩) n cap (l.set k x) ∧ k * c + (f x).length ≤ cur.size := by
  have hlen := h.1
  have hx := hc x
  rcases h.2.2 with ⟨h1, h0⟩ | ⟨g', cp, cu, h1, h2, h3, h4, h5, h6, h7⟩
  · omega
  · simp only [Value.slice.injEq, true_and, Option.some.injEq, Addr.mk.injEq, and_true] at h1
    obtain ⟨rfl, rfl⟩ := h1
    rw [hb] at h3
    cases h3
    have hkc : k * c + c ≤ n * c := by
      have := Nat.mul_le_mul_right c (show k + 1 ≤ n by omega)
      rw [Nat.succ_mul] at this
      exact this
    have hnc : n * c ≤ cur.size := by rw [h6]; exact Nat.mul_le_mul_right _ h4
    refine ⟨⟨by rw [List.length_set]; exact h.1, ?_, .inr ⟨g, cap, _, rfl, h2, blk_row_eq hb, h4, h5, ?_, ?_⟩⟩, by omega⟩
    · rw [flat_len hc, List.length_set, hlen]
    · rw [partOf_size (by omega)]; exact h6
    · rw [flat_set hc l x k (by omega), ← h7]
      unfold partOf
      rw [List.take_append, List.take_append, List.length_take, Array.length_toList, hx]
      have e1 : min (k * c) cur.size = k * c := by omega
      rw [e1, List.take_of_length_le (l := f x) (by rw [hx]; omega), List.take_of_length_le (l := List.take (k * c) cur.toList) (by rw [List.length_take]; omega), List.take_take, show min (k * c) (n * c) = k * c by omega]
      congr 2
      rw [List.take_drop]
      congr 2
      omega

end

end

section


open Go.RowKit Go.ChangeShapes Go.WideShapes Go.ChangeAt

set_option linter.unusedSimpArgs false

set_option linter.unusedVariables false

attribute [local go_sem] plus_size plus_drew dn_set dn_alloc dn_plus plus_dn cell_plus frozen_plus set_plus cell_alloc frozen_alloc set_alloc

theorem name_w {α : Type} {F : α → World → Prop} {a : α} {w : World} (p : World → Prop) (hp : p w) (h : ∀ w', p w' → F a w') : F a w := h w hp

theorem blk_new2 (w : World) (o : Obj) : (w.alloc o).heap[w.heap.size]? = some o := by rw [blk_alloc, if_pos rfl]

theorem blk_old {w : World} {o o' : Obj} {g : Nat} (h : w.heap[g]? = some o) : (w.alloc o').heap[g]? = some o := by rw [blk_alloc, if_neg (by have := blk_lt h; omega)]; exact h

theorem size_alloc (w : World) (o : Obj) : (w.alloc o).heap.size = w.heap.size + 1 := Array.size_push ..

theorem blk_set {w : World} {g i : Nat} {u : Value} {cs : List Value} {t : TypeId} (h : w.heap[g]? = some (.cells cs.toArray t)) : (w.setCell ⟨g, i, none⟩ u).heap[g]? = some (.cells (cs.set i u).toArray t) := by
  rw [blk_set_eq h]
  simp

theorem blk_set_far {w : World} {g k i : Nat} {u : Value} {o : Obj} (h : w.heap[k]? = some o) (hne : g ≠ k) : (w.setCell ⟨g, i, none⟩ u).heap[k]? = some o := by rw [blk_set_ne hne]; exact h

theorem blk_row_far {w : World} {g k : Nat} {cs : Array Value} {o : Obj} (h : w.heap[k]? = some o) (hne : g ≠ k) : (w.setRow g cs).heap[k]? = some o := by rw [blk_row_ne hne]; exact h

theorem cell_of {w : World} {g i : Nat} {cs : List Value} {t : TypeId} {u : Value} (h : w.heap[g]? = some (.cells cs.toArray t)) (hi : cs[i]? = some u) : w.cell? ⟨g, i, none⟩ = some u := cell_blk h (by simpa using hi)

/-- a node in memory newer than T -/
structure NodeOwn (T w : World) (h : NH) (n : Nd) : Prop where
  f : h.f = n.f
  b : NfB n.f
  far : Own 3 1 fI T w h.ao h.n h.cap n.far

theorem NodeOwn.ex {T w w' : World} {h : NH} {n : Nd} (a : NodeOwn T w h n) (hw : ∃ y, w' = plus w y) : NodeOwn T w' h n := ⟨a.f, a.b, a.far.ex hw⟩

theorem NodeOwn.base {T T' w : World} {h : NH} {n : Nd} (a : NodeOwn T w h n) (hT : T'.heap.size ≤ T.heap.size) : NodeOwn T' w h n := ⟨a.f, a.b, a.far.base hT⟩

def farAs (h : NH) (ao : Option Addr) (n cap : Nat) : NH := ⟨h.f, ao, n, cap⟩

theorem far_set (h : NH) (ao : Option Addr) (n cap : Nat) : (fN h).set 17 (.slice ao n cap) = fN (farAs h ao n cap) := rfl

theorem far_set2 (h : NH) (v : Value) (ao : Option Addr) (n cap : Nat) : ((fN h).set 17 v).set 17 (.slice ao n cap) = fN (farAs h ao n cap) := rfl

theorem far_at (h : NH) : (fN h)[17]? = some (.slice h.ao h.n h.cap) := rfl

theorem kind_at (h : NH) : (fN h)[0]? = some (.int .u8 h.f.kind) := rfl

def RetNd (w : World) (n : Nd) (e : Ending) (w' : World) : Prop := ∃ h, e = .returned (vN h) ∧ (∃ y, w' = plus w y) ∧ NodeOwn w w' h n

end

section


open Go.RowKit Go.ChangeShapes Go.WideShapes Go.ChangeAt

set_option linter.unusedSimpArgs false

set_option linter.unusedVariables false

attribute [local go_sem] plus_size plus_drew dn_set dn_alloc dn_plus plus_dn cell_plus frozen_plus set_plus cell_alloc frozen_alloc set_alloc

attribute [local go_sem] eqarr_40 nearr_40 larr_40

attribute [local go_sem] eqarr_137 nearr_137 larr_137

attribute [local go_sem] isnil_47

attribute [local go_sem] isnil_57

attribute [local go_sem] isnil_58

attribute [local go_sem] isnil_59

theorem cloneI (ao : Option Addr) (n cap : Nat) (l : List Int) (w : World) (hl : Lay fI w ao n l) (hn : n ≤ 10000) (hz : ao = none → cap = 0) :
    Calls Tryz.prog 83 #[.slice ao n cap] w fun e w' => RetO 3 1 fI w l e w' := by
  cases ao with
  | none =>
    obtain rfl : n = 0 := by rcases hl.at0 with h | ⟨g, off, h, _⟩; exact h; cases h
    obtain rfl := hz rfl
    obtain rfl := hl.zero
    go_enter Tryz.func83, Tryz.ntmps83
    go_wp2
    go_ret
    exact ⟨none, 0, 0, rfl, (by with_reducible repeat (first | exact ex_refl _ | exact ex_moreM | apply ex_alloc | apply ex_plus | apply ex_drew | apply ex_drewN)), own_nil⟩
  | some a =>
    go_enter Tryz.func83, Tryz.ntmps83
    go_wp2_with (at_builtin; (refine wpList_append_lay (T := w) (l := []) rfl _ _ rfl kinI fI_c fI_1 rfl (by with_reducible repeat (first | exact ex_refl _ | exact ex_moreM | apply ex_alloc | apply ex_plus | apply ex_drew | apply ex_drewN)) ⟨rfl, World.ownsRow_made w _ 0 (Nat.le_refl _) (by decide) rfl⟩ rfl (hl.ex (by with_reducible repeat (first | exact ex_refl _ | exact ex_moreM | apply ex_alloc | apply ex_plus | apply ex_drew | apply ex_drewN))) (by omega) (by decide) ?_; intro ao' cap' y' hown'))
    go_ret
    rw [Nat.zero_add, List.nil_append] at hown'
    exact ⟨ao', _, cap', rfl, (by with_reducible repeat (first | exact ex_refl _ | exact ex_moreM | apply ex_alloc | apply ex_plus | apply ex_drew | apply ex_drewN)), hown'⟩

theorem cloneV (ao : Option Addr) (n cap : Nat) (l : List V3) (w : World) (hl : Lay fV w ao n l) (hn : n ≤ 10000) (hz : ao = none → cap = 0) :
    Calls Tryz.prog 84 #[.slice ao n cap] w fun e w' => RetO 43 3 fV w l e w' := by
  cases ao with
  | none =>
    obtain rfl : n = 0 := by rcases hl.at0 with h | ⟨g, off, h, _⟩; exact h; cases h
    obtain rfl := hz rfl
    obtain rfl := hl.zero
    go_enter Tryz.func84, Tryz.ntmps84
    go_wp2
    go_ret
    exact ⟨none, 0, 0, rfl, (by with_reducible repeat (first | exact ex_refl _ | exact ex_moreM | apply ex_alloc | apply ex_plus | apply ex_drew | apply ex_drewN)), own_nil⟩
  | some a =>
    go_enter Tryz.func84, Tryz.ntmps84
    go_wp2_with (at_builtin; (refine wpList_append_lay (T := w) (l := []) rfl _ _ rfl kinV fV_c fV_1 rfl (by with_reducible repeat (first | exact ex_refl _ | exact ex_moreM | apply ex_alloc | apply ex_plus | apply ex_drew | apply ex_drewN)) ⟨rfl, World.ownsRow_made w _ 0 (Nat.le_refl _) (by decide) rfl⟩ rfl (hl.ex (by with_reducible repeat (first | exact ex_refl _ | exact ex_moreM | apply ex_alloc | apply ex_plus | apply ex_drew | apply ex_drewN))) (by omega) (by decide) ?_; intro ao' cap' y' hown'))
    go_ret
    rw [Nat.zero_add, List.nil_append] at hown'
    exact ⟨ao', _, cap', rfl, (by with_reducible repeat (first | exact ex_refl _ | exact ex_moreM | apply ex_alloc | apply ex_plus | apply ex_drew | apply ex_drewN)), hown'⟩

theorem clone2 (ao : Option Addr) (n cap : Nat) (l : List (Int × Int)) (w : World) (hl : Lay f2 w ao n l) (hn : n ≤ 10000) (hz : ao = none → cap = 0) :
    Calls Tryz.prog 85 #[.slice ao n cap] w fun e w' => RetO 137 2 f2 w l e w' := by
  cases ao with
  | none =>
    obtain rfl : n = 0 := by rcases hl.at0 with h | ⟨g, off, h, _⟩; exact h; cases h
    obtain rfl := hz rfl
    obtain rfl := hl.zero
    go_enter Tryz.func85, Tryz.ntmps85
    go_wp2
    go_ret
    exact ⟨none, 0, 0, rfl, (by with_reducible repeat (first | exact ex_refl _ | exact ex_moreM | apply ex_alloc | apply ex_plus | apply ex_drew | apply ex_drewN)), own_nil⟩
  | some a =>
    go_enter Tryz.func85, Tryz.ntmps85
    go_wp2_with (at_builtin; (refine wpList_append_lay (T := w) (l := []) rfl _ _ rfl kin2 f2_c f2_1 rfl (by with_reducible repeat (first | exact ex_refl _ | exact ex_moreM | apply ex_alloc | apply ex_plus | apply ex_drew | apply ex_drewN)) ⟨rfl, World.ownsRow_made w _ 0 (Nat.le_refl _) (by decide) rfl⟩ rfl (hl.ex (by with_reducible repeat (first | exact ex_refl _ | exact ex_moreM | apply ex_alloc | apply ex_plus | apply ex_drew | apply ex_drewN))) (by omega) (by decide) ?_; intro ao' cap' y' hown'))
    go_ret
    rw [Nat.zero_add, List.nil_append] at hown'
    exact ⟨ao', _, cap', rfl, (by with_reducible repeat (first | exact ex_refl _ | exact ex_moreM | apply ex_alloc | apply ex_plus | apply ex_drew | apply ex_drewN)), hown'⟩

end

end Go.Proofs.YtcekcihijdipoaaGreat
