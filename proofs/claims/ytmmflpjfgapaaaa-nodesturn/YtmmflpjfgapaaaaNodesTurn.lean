/- NodesTurn is proved: whether a graph may be, and what becomes of it, are the document's; what is handed in stays, what is answered is new memory: the call returns true for any two graphs, handles and place. No condition. -/
import Derived.Test.YtmmflpjfgapaaaaNodesL
import Derived.Test.YtmmflpjfgapaaaaLaw
namespace Go.Proofs.Ytmmflpjfgapaaaa
open Go.RowKit Go.ChangeShapes Go.WideShapes Go.ChangeAt
set_option linter.unusedSimpArgs false
set_option linter.unusedVariables false
attribute [local go_sem] plus_size plus_drew dn_set dn_alloc dn_plus plus_dn cell_plus frozen_plus set_plus cell_alloc frozen_alloc set_alloc


set_option maxRecDepth 100000 in
set_option maxHeartbeats 16000000 in
theorem nodesTurn_walk (ao : Option Addr) (n cap : Nat) (ko : Option Addr) (kn kcap : Nat) (hs : List RH) (gr : Gr) (ao2 : Option Addr) (n2 cap2 : Nat) (ko2 : Option Addr) (kn2 kcap2 : Nat) (hs2 : List RH) (gr2 : Gr) (s g i1 i2 pos : Int) (w : World) (hG : GrIn w ao n ko kn hs gr) (hG2 : GrIn w ao2 n2 ko2 kn2 hs2 gr2) :
    Calls Try.prog 4 #[.agg #[.slice ao n cap, .slice ko kn kcap], .agg #[.slice ao2 n2 cap2, .slice ko2 kn2 kcap2], .agg #[.int .i64 s, .int .i64 g], .agg #[.int .i64 i1, .int .i64 i2], .int .i64 pos] w fun e w' => e = .returned (.bool true) ∧ Below w.heap.size w w' := by
  cases hg1 : greatB n kn hs
  rotate_left
  · go_enter Try.func4, Try.ntmps4
    go_wp2_with (go_at_call 16; refine (plus_post (great_any (by first | exact hG.ex (by with_reducible repeat (first | exact ex_refl _ | exact ex_more | apply ex_alloc | apply ex_plus | apply ex_drew | apply ex_drewN)) | exact hG2.ex (by with_reducible repeat (first | exact ex_refl _ | exact ex_more | apply ex_alloc | apply ex_plus | apply ex_drew | apply ex_drewN))))).mono ?_; rintro e w' ⟨rfl, nx, rfl⟩; first | rw [hg1] | rw [hg2])
    go_ret
    exact ⟨rfl, by with_reducible repeat (first | exact Below.refl _ _ | apply ba | apply bp | apply bd | apply bn)⟩
  cases hg2 : greatB n2 kn2 hs2
  rotate_left
  · go_enter Try.func4, Try.ntmps4
    go_wp2_with (go_at_call 16; refine (plus_post (great_any (by first | exact hG.ex (by with_reducible repeat (first | exact ex_refl _ | exact ex_more | apply ex_alloc | apply ex_plus | apply ex_drew | apply ex_drewN)) | exact hG2.ex (by with_reducible repeat (first | exact ex_refl _ | exact ex_more | apply ex_alloc | apply ex_plus | apply ex_drew | apply ex_drewN))))).mono ?_; rintro e w' ⟨rfl, nx, rfl⟩; first | rw [hg1] | rw [hg2])
    go_ret
    exact ⟨rfl, by with_reducible repeat (first | exact Below.refl _ _ | apply ba | apply bp | apply bd | apply bn)⟩
  have hA := hG.few hg1
  have hB := hG2.few hg2
  have fA := great_few hG hg1
  have fM := few_make fA
  have fK := few_kill fA (s, g)
  have fL := few_link fA (s, g) (i1, i2) pos
  have fU := few_unlink fA (s, g) pos
  have sL := sameG_refl gr
  have sM := sameG_refl (makeRes gr)
  have sK := sameG_refl (killRG gr (s, g))
  have sN := sameG_refl (linkRes gr (s, g) (i1, i2) pos)
  have sU := sameG_refl (unlinkRes gr (s, g) pos)
  go_enter Try.func4, Try.ntmps4
  go_upto_region 4 with (first | (go_at_call 16; refine (plus_post (great_any (by first | exact hG.ex (by with_reducible repeat (first | exact ex_refl _ | exact ex_more | apply ex_alloc | apply ex_plus | apply ex_drew | apply ex_drewN)) | exact hG2.ex (by with_reducible repeat (first | exact ex_refl _ | exact ex_more | apply ex_alloc | apply ex_plus | apply ex_drew | apply ex_drewN))))).mono ?_; rintro e w' ⟨rfl, nx, rfl⟩; first | rw [hg1] | rw [hg2]) | (go_at_call 17; refine (gtwin_calls _ _ _ _ _ _ _ gr _ (hA.ex (by with_reducible repeat (first | exact ex_refl _ | exact ex_more | apply ex_alloc | apply ex_plus | apply ex_drew | apply ex_drewN)))).mono ?_; rintro e w1 ⟨a1, c1, k1, kc1, hs1, rfl, hw1, o1⟩; have q0 : w1.cell? ⟨w.heap.size, 0, none⟩ = some (.slice ao n cap) := cell_ex hw1 (by simp [go_sem, ↓IntWalk.iteOmega]); have q1 : w1.cell? ⟨w.heap.size, 1, none⟩ = some (.slice ko kn kcap) := cell_ex hw1 (by simp [go_sem, ↓IntWalk.iteOmega]); have q2 : w1.cell? ⟨w.heap.size + 1, 0, none⟩ = some (.slice ao2 n2 cap2) := cell_ex hw1 (by simp [go_sem, ↓IntWalk.iteOmega]); have q3 : w1.cell? ⟨w.heap.size + 1, 1, none⟩ = some (.slice ko2 kn2 kcap2) := cell_ex hw1 (by simp [go_sem, ↓IntWalk.iteOmega]); have q4 : w1.cell? ⟨w.heap.size + 1 + 1, 0, none⟩ = some (.int .i64 s) := cell_ex hw1 (by simp [go_sem, ↓IntWalk.iteOmega]); have q5 : w1.cell? ⟨w.heap.size + 1 + 1, 1, none⟩ = some (.int .i64 g) := cell_ex hw1 (by simp [go_sem, ↓IntWalk.iteOmega]); have q6 : w1.cell? ⟨w.heap.size + 1 + 1 + 1, 0, none⟩ = some (.int .i64 i1) := cell_ex hw1 (by simp [go_sem, ↓IntWalk.iteOmega]); have q7 : w1.cell? ⟨w.heap.size + 1 + 1 + 1, 1, none⟩ = some (.int .i64 i2) := cell_ex hw1 (by simp [go_sem, ↓IntWalk.iteOmega])))
  have hx : ∃ y, w1.alloc (.cells #[.slice a1 n c1, .slice k1 kn kc1] 27) = plus w y := (by with_reducible repeat (first | exact ex_refl _ | exact ex_more | apply ex_alloc | apply ex_plus | apply ex_drew | apply ex_drewN | (apply ex_on; assumption)))
  have hown := (o1.ex (ex_alloc (o := (.cells #[.slice a1 n c1, .slice k1 kn kc1] 27)) (ex_refl w1))).at hA.n1 hA.n2 (fun k _ => Nat.le_trans (fA.r k) (by decide))
  have hA1 := hA.ex hx
  have hB1 := hB.ex hx
  have cO : (w1.alloc (.cells #[.slice a1 n c1, .slice k1 kn kc1] 27)).cell? ⟨w1.heap.size, 0, none⟩ = some (.slice a1 n c1) := by simp [go_sem]
  have cO' : (w1.alloc (.cells #[.slice a1 n c1, .slice k1 kn kc1] 27)).cell? ⟨w1.heap.size, 1, none⟩ = some (.slice k1 kn kc1) := by simp [go_sem]
  have p0 := cell_ex (w' := w1.alloc (.cells #[.slice a1 n c1, .slice k1 kn kc1] 27)) (ex_alloc (o := (.cells #[.slice a1 n c1, .slice k1 kn kc1] 27)) (ex_refl w1)) q0
  have p1 := cell_ex (w' := w1.alloc (.cells #[.slice a1 n c1, .slice k1 kn kc1] 27)) (ex_alloc (o := (.cells #[.slice a1 n c1, .slice k1 kn kc1] 27)) (ex_refl w1)) q1
  have p2 := cell_ex (w' := w1.alloc (.cells #[.slice a1 n c1, .slice k1 kn kc1] 27)) (ex_alloc (o := (.cells #[.slice a1 n c1, .slice k1 kn kc1] 27)) (ex_refl w1)) q2
  have p3 := cell_ex (w' := w1.alloc (.cells #[.slice a1 n c1, .slice k1 kn kc1] 27)) (ex_alloc (o := (.cells #[.slice a1 n c1, .slice k1 kn kc1] 27)) (ex_refl w1)) q3
  have p4 := cell_ex (w' := w1.alloc (.cells #[.slice a1 n c1, .slice k1 kn kc1] 27)) (ex_alloc (o := (.cells #[.slice a1 n c1, .slice k1 kn kc1] 27)) (ex_refl w1)) q4
  have p5 := cell_ex (w' := w1.alloc (.cells #[.slice a1 n c1, .slice k1 kn kc1] 27)) (ex_alloc (o := (.cells #[.slice a1 n c1, .slice k1 kn kc1] 27)) (ex_refl w1)) q5
  have p6 := cell_ex (w' := w1.alloc (.cells #[.slice a1 n c1, .slice k1 kn kc1] 27)) (ex_alloc (o := (.cells #[.slice a1 n c1, .slice k1 kn kc1] 27)) (ex_refl w1)) q6
  have p7 := cell_ex (w' := w1.alloc (.cells #[.slice a1 n c1, .slice k1 kn kc1] 27)) (ex_alloc (o := (.cells #[.slice a1 n c1, .slice k1 kn kc1] 27)) (ex_refl w1)) q7
  clear o1 q0 q1 q2 q3 q4 q5 q6 q7
  generalize w1.alloc (.cells #[.slice a1 n c1, .slice k1 kn kc1] 27) = T at *
  have lO := cell_lt cO
  have lA := cell_lt p0
  have lB := cell_lt p2
  have lH := cell_lt p4
  have lI := cell_lt p6
  clear hA hB hG hG2
  go_upto_region 14 with (first | (go_at_call 18; refine (nmake_calls _ _ _ _ _ _ _ gr _ (hown.ex (by with_reducible repeat (first | exact ex_refl _ | exact ex_more | apply ex_alloc | apply ex_plus | apply ex_drew | apply ex_drewN | (apply ex_on; assumption))))).mono ?_; rintro e w' ⟨Aa, Ac, Ak, Akc, Ahs, rfl, ⟨y1, rfl⟩, oA⟩) | (go_at_call 19; refine (gmake_calls _ _ _ _ _ _ _ gr _ (hA1.ex (by with_reducible repeat (first | exact ex_refl _ | exact ex_more | apply ex_alloc | apply ex_plus | apply ex_drew | apply ex_drewN | (apply ex_on; assumption))))).mono ?_; rintro e w' ⟨Ba, Bc, Bk, Bkc, Bhs, rfl, ⟨y2, rfl⟩, oB⟩) | (go_at_call 12; refine (nkill_calls _ _ _ _ _ _ _ gr _ _ _ (hown.ex (by with_reducible repeat (first | exact ex_refl _ | exact ex_more | apply ex_alloc | apply ex_plus | apply ex_drew | apply ex_drewN | (apply ex_on; assumption))))).mono ?_; rintro e w' ⟨Ca, Cc, Ck, Ckc, Chs, rfl, ⟨y3, rfl⟩, oC⟩) | (go_at_call 20; refine (gkill_calls _ _ _ _ _ _ _ gr _ _ _ (hA1.ex (by with_reducible repeat (first | exact ex_refl _ | exact ex_more | apply ex_alloc | apply ex_plus | apply ex_drew | apply ex_drewN | (apply ex_on; assumption))))).mono ?_; rintro e w' ⟨Da, Dc, Dk, Dkc, Dhs, rfl, ⟨y4, rfl⟩, oD⟩) | (go_at_call 10; refine (nlink_calls _ _ _ _ _ _ _ gr _ _ _ _ _ _ (hown.ex (by with_reducible repeat (first | exact ex_refl _ | exact ex_more | apply ex_alloc | apply ex_plus | apply ex_drew | apply ex_drewN | (apply ex_on; assumption))))).mono ?_; rintro e w' ⟨Pa, Pc, Pk, Pkc, Phs, rfl, ⟨y5, rfl⟩, oP⟩) | (go_at_call 21; refine (glink_calls _ _ _ _ _ _ _ gr _ _ _ _ _ _ (hA1.ex (by with_reducible repeat (first | exact ex_refl _ | exact ex_more | apply ex_alloc | apply ex_plus | apply ex_drew | apply ex_drewN | (apply ex_on; assumption))))).mono ?_; rintro e w' ⟨Ka, Kc, Kk, Kkc, Khs, rfl, ⟨y6, rfl⟩, oK⟩) | (go_at_call 13; refine (nunlink_calls _ _ _ _ _ _ _ gr _ _ _ _ (hown.ex (by with_reducible repeat (first | exact ex_refl _ | exact ex_more | apply ex_alloc | apply ex_plus | apply ex_drew | apply ex_drewN | (apply ex_on; assumption))))).mono ?_; rintro e w' ⟨Ra, Rc, Rk, Rkc, Rhs, rfl, ⟨y7, rfl⟩, oR⟩) | (go_at_call 22; refine (gunlink_calls _ _ _ _ _ _ _ gr _ _ _ _ (hA1.ex (by with_reducible repeat (first | exact ex_refl _ | exact ex_more | apply ex_alloc | apply ex_plus | apply ex_drew | apply ex_drewN | (apply ex_on; assumption))))).mono ?_; rintro e w' ⟨Sa, Sc, Sk, Skc, Shs, rfl, ⟨y8, rfl⟩, oS⟩) | (go_at_call 23; refine (ntwin_calls _ _ _ _ _ _ _ gr _ (hown.ex (by with_reducible repeat (first | exact ex_refl _ | exact ex_more | apply ex_alloc | apply ex_plus | apply ex_drew | apply ex_drewN | (apply ex_on; assumption))))).mono ?_; rintro e w' ⟨Ea, Ec, Ek, Ekc, Ehs, rfl, ⟨y9, rfl⟩, oE⟩) | (go_at_call 24; refine (plus_post (gsame_any (by first | exact (oA.atF fM (by decide)).ex (by with_reducible repeat (first | exact ex_refl _ | exact ex_more | apply ex_alloc | apply ex_plus | apply ex_drew | apply ex_drewN | (apply ex_on; assumption))) | exact (oC.atF fK (by decide)).ex (by with_reducible repeat (first | exact ex_refl _ | exact ex_more | apply ex_alloc | apply ex_plus | apply ex_drew | apply ex_drewN | (apply ex_on; assumption))) | exact (oP.atF fL (by decide)).ex (by with_reducible repeat (first | exact ex_refl _ | exact ex_more | apply ex_alloc | apply ex_plus | apply ex_drew | apply ex_drewN | (apply ex_on; assumption))) | exact (oR.atF fU (by decide)).ex (by with_reducible repeat (first | exact ex_refl _ | exact ex_more | apply ex_alloc | apply ex_plus | apply ex_drew | apply ex_drewN | (apply ex_on; assumption)))) (by first | exact (oB.atF fM (by decide)).ex (by with_reducible repeat (first | exact ex_refl _ | exact ex_more | apply ex_alloc | apply ex_plus | apply ex_drew | apply ex_drewN | (apply ex_on; assumption))) | exact (oD.atF fK (by decide)).ex (by with_reducible repeat (first | exact ex_refl _ | exact ex_more | apply ex_alloc | apply ex_plus | apply ex_drew | apply ex_drewN | (apply ex_on; assumption))) | exact (oK.atF fL (by decide)).ex (by with_reducible repeat (first | exact ex_refl _ | exact ex_more | apply ex_alloc | apply ex_plus | apply ex_drew | apply ex_drewN | (apply ex_on; assumption))) | exact (oS.atF fU (by decide)).ex (by with_reducible repeat (first | exact ex_refl _ | exact ex_more | apply ex_alloc | apply ex_plus | apply ex_drew | apply ex_drewN | (apply ex_on; assumption)))))).mono ?_; rintro e w' ⟨rfl, nz, rfl⟩; first | rw [sM] | rw [sK] | rw [sN] | rw [sU]))
  refine region_plus (by kernel_rfl) (by kernel_rfl) ?_
  (repeat (go_big_quiet_step ((first | (go_at_call 15; exact plus_of (ncheck_calls _ _ _ _ _ _ _ gr _ (hown.ex (by with_reducible repeat (first | exact ex_refl _ | exact ex_more | apply ex_alloc | apply ex_plus | apply ex_drew | apply ex_drewN | (apply ex_on; assumption)))))) | (go_at_call 25; exact plus_of (gcheck_calls _ _ _ _ _ _ _ gr _ (hA1.ex (by with_reducible repeat (first | exact ex_refl _ | exact ex_more | apply ex_alloc | apply ex_plus | apply ex_drew | apply ex_drewN | (apply ex_on; assumption)))))) | (go_at_call 26; exact plus_of (nsame_any (by first | exact hA1.ex (by with_reducible repeat (first | exact ex_refl _ | exact ex_more | apply ex_alloc | apply ex_plus | apply ex_drew | apply ex_drewN | (apply ex_on; assumption))) | exact hown.ex (by with_reducible repeat (first | exact ex_refl _ | exact ex_more | apply ex_alloc | apply ex_plus | apply ex_drew | apply ex_drewN | (apply ex_on; assumption)))) (by first | exact hB1.ex (by with_reducible repeat (first | exact ex_refl _ | exact ex_more | apply ex_alloc | apply ex_plus | apply ex_drew | apply ex_drewN | (apply ex_on; assumption))) | exact hA1.ex (by with_reducible repeat (first | exact ex_refl _ | exact ex_more | apply ex_alloc | apply ex_plus | apply ex_drew | apply ex_drewN | (apply ex_on; assumption)))))) | (go_at_call 24; exact plus_of (gsame_any (by first | exact hA1.ex (by with_reducible repeat (first | exact ex_refl _ | exact ex_more | apply ex_alloc | apply ex_plus | apply ex_drew | apply ex_drewN | (apply ex_on; assumption))) | exact (oE.at hown.n1 hown.n2 (fun k _ => Nat.le_trans (fA.r k) (by decide))).ex (by with_reducible repeat (first | exact ex_refl _ | exact ex_more | apply ex_alloc | apply ex_plus | apply ex_drew | apply ex_drewN | (apply ex_on; assumption)))) (by first | exact hB1.ex (by with_reducible repeat (first | exact ex_refl _ | exact ex_more | apply ex_alloc | apply ex_plus | apply ex_drew | apply ex_drewN | (apply ex_on; assumption))) | exact hA1.ex (by with_reducible repeat (first | exact ex_refl _ | exact ex_more | apply ex_alloc | apply ex_plus | apply ex_drew | apply ex_drewN | (apply ex_on; assumption))))))))))
  refine wpQuiet_nil ?_
  rintro _ ⟨x2, rfl⟩
  refine name_world (fun w' => (∃ y, w' = plus T y) ∧ Box T w' (T.heap.size + (blocks y1).size) Aa (makeRes gr).sl.length Ac Ak (makeRes gr).ks.length Akc Ahs ∧ Box T w' (T.heap.size + (blocks y1).size + 1 + 1 + (blocks y2).size + 1 + 1 + (blocks y3).size) Ca (killRG gr (s, g)).sl.length Cc Ck (killRG gr (s, g)).ks.length Ckc Chs ∧ Box T w' (T.heap.size + (blocks y1).size + 1 + 1 + (blocks y2).size + 1 + 1 + (blocks y3).size + 1 + (blocks y4).size + 1 + (blocks y5).size) Pa (linkRes gr (s, g) (i1, i2) pos).sl.length Pc Pk (linkRes gr (s, g) (i1, i2) pos).ks.length Pkc Phs ∧ Box T w' (T.heap.size + (blocks y1).size + 1 + 1 + (blocks y2).size + 1 + 1 + (blocks y3).size + 1 + (blocks y4).size + 1 + (blocks y5).size + 1 + (blocks y6).size + 1 + (blocks y7).size) Ra (unlinkRes gr (s, g) pos).sl.length Rc Rk (unlinkRes gr (s, g) pos).ks.length Rkc Rhs ∧ Box T w' (T.heap.size + (blocks y1).size + 1 + 1 + (blocks y2).size + 1 + 1 + (blocks y3).size + 1 + (blocks y4).size + 1 + (blocks y5).size + 1 + (blocks y6).size + 1 + (blocks y7).size + 1 + (blocks y8).size + 1 + (blocks y9).size) Ea n Ec Ek kn Ekc Ehs) ⟨(by with_reducible repeat (first | exact ex_refl _ | exact ex_more | apply ex_alloc | apply ex_plus | apply ex_drew | apply ex_drewN | (apply ex_on; assumption))), ⟨blk_ex (w := ((plus T y1).alloc (.cells #[.slice Aa (makeRes gr).sl.length Ac, .slice Ak (makeRes gr).ks.length Akc] 27))) (by with_reducible repeat (first | exact ex_refl _ | exact ex_more | apply ex_alloc | apply ex_plus | apply ex_drew | apply ex_drewN)) (by rw [blk_alloc, if_pos (by simp [go_sem])]), ((oA.shF fM (by decide) (Nat.le_refl _)).ex (by with_reducible repeat (first | exact ex_refl _ | exact ex_more | apply ex_alloc | apply ex_plus | apply ex_drew | apply ex_drewN)))⟩, ⟨blk_ex (w := ((plus (((plus (((plus T y1).alloc (.cells #[.slice Aa (makeRes gr).sl.length Ac, .slice Ak (makeRes gr).ks.length Akc] 27)).alloc (.cells #[.int .i64 (makeS gr), .int .i64 (makeH gr)] 29)) y2).alloc (.cells #[.slice Ba (makeRes gr).sl.length Bc, .slice Bk (makeRes gr).ks.length Bkc] 27)).alloc (.cells #[.int .i64 (makeS gr), .int .i64 (makeH gr)] 29)) y3).alloc (.cells #[.slice Ca (killRG gr (s, g)).sl.length Cc, .slice Ck (killRG gr (s, g)).ks.length Ckc] 27))) (by with_reducible repeat (first | exact ex_refl _ | exact ex_more | apply ex_alloc | apply ex_plus | apply ex_drew | apply ex_drewN)) (by rw [blk_alloc, if_pos (by simp [go_sem])]), ((oC.shF fK (by decide) (by simp [go_sem]; try omega)).ex (by with_reducible repeat (first | exact ex_refl _ | exact ex_more | apply ex_alloc | apply ex_plus | apply ex_drew | apply ex_drewN)))⟩, ⟨blk_ex (w := ((plus ((plus ((plus (((plus (((plus T y1).alloc (.cells #[.slice Aa (makeRes gr).sl.length Ac, .slice Ak (makeRes gr).ks.length Akc] 27)).alloc (.cells #[.int .i64 (makeS gr), .int .i64 (makeH gr)] 29)) y2).alloc (.cells #[.slice Ba (makeRes gr).sl.length Bc, .slice Bk (makeRes gr).ks.length Bkc] 27)).alloc (.cells #[.int .i64 (makeS gr), .int .i64 (makeH gr)] 29)) y3).alloc (.cells #[.slice Ca (killRG gr (s, g)).sl.length Cc, .slice Ck (killRG gr (s, g)).ks.length Ckc] 27)) y4).alloc (.cells #[.slice Da (killRG gr (s, g)).sl.length Dc, .slice Dk (killRG gr (s, g)).ks.length Dkc] 27)) y5).alloc (.cells #[.slice Pa (linkRes gr (s, g) (i1, i2) pos).sl.length Pc, .slice Pk (linkRes gr (s, g) (i1, i2) pos).ks.length Pkc] 27))) (by with_reducible repeat (first | exact ex_refl _ | exact ex_more | apply ex_alloc | apply ex_plus | apply ex_drew | apply ex_drewN)) (by rw [blk_alloc, if_pos (by simp [go_sem])]), ((oP.shF fL (by decide) (by simp [go_sem]; try omega)).ex (by with_reducible repeat (first | exact ex_refl _ | exact ex_more | apply ex_alloc | apply ex_plus | apply ex_drew | apply ex_drewN)))⟩, ⟨blk_ex (w := ((plus ((plus ((plus ((plus ((plus (((plus (((plus T y1).alloc (.cells #[.slice Aa (makeRes gr).sl.length Ac, .slice Ak (makeRes gr).ks.length Akc] 27)).alloc (.cells #[.int .i64 (makeS gr), .int .i64 (makeH gr)] 29)) y2).alloc (.cells #[.slice Ba (makeRes gr).sl.length Bc, .slice Bk (makeRes gr).ks.length Bkc] 27)).alloc (.cells #[.int .i64 (makeS gr), .int .i64 (makeH gr)] 29)) y3).alloc (.cells #[.slice Ca (killRG gr (s, g)).sl.length Cc, .slice Ck (killRG gr (s, g)).ks.length Ckc] 27)) y4).alloc (.cells #[.slice Da (killRG gr (s, g)).sl.length Dc, .slice Dk (killRG gr (s, g)).ks.length Dkc] 27)) y5).alloc (.cells #[.slice Pa (linkRes gr (s, g) (i1, i2) pos).sl.length Pc, .slice Pk (linkRes gr (s, g) (i1, i2) pos).ks.length Pkc] 27)) y6).alloc (.cells #[.slice Ka (linkRes gr (s, g) (i1, i2) pos).sl.length Kc, .slice Kk (linkRes gr (s, g) (i1, i2) pos).ks.length Kkc] 27)) y7).alloc (.cells #[.slice Ra (unlinkRes gr (s, g) pos).sl.length Rc, .slice Rk (unlinkRes gr (s, g) pos).ks.length Rkc] 27))) (by with_reducible repeat (first | exact ex_refl _ | exact ex_more | apply ex_alloc | apply ex_plus | apply ex_drew | apply ex_drewN)) (by rw [blk_alloc, if_pos (by simp [go_sem])]), ((oR.shF fU (by decide) (by simp [go_sem]; try omega)).ex (by with_reducible repeat (first | exact ex_refl _ | exact ex_more | apply ex_alloc | apply ex_plus | apply ex_drew | apply ex_drewN)))⟩, ⟨blk_ex (w := ((plus ((plus ((plus ((plus ((plus ((plus ((plus (((plus (((plus T y1).alloc (.cells #[.slice Aa (makeRes gr).sl.length Ac, .slice Ak (makeRes gr).ks.length Akc] 27)).alloc (.cells #[.int .i64 (makeS gr), .int .i64 (makeH gr)] 29)) y2).alloc (.cells #[.slice Ba (makeRes gr).sl.length Bc, .slice Bk (makeRes gr).ks.length Bkc] 27)).alloc (.cells #[.int .i64 (makeS gr), .int .i64 (makeH gr)] 29)) y3).alloc (.cells #[.slice Ca (killRG gr (s, g)).sl.length Cc, .slice Ck (killRG gr (s, g)).ks.length Ckc] 27)) y4).alloc (.cells #[.slice Da (killRG gr (s, g)).sl.length Dc, .slice Dk (killRG gr (s, g)).ks.length Dkc] 27)) y5).alloc (.cells #[.slice Pa (linkRes gr (s, g) (i1, i2) pos).sl.length Pc, .slice Pk (linkRes gr (s, g) (i1, i2) pos).ks.length Pkc] 27)) y6).alloc (.cells #[.slice Ka (linkRes gr (s, g) (i1, i2) pos).sl.length Kc, .slice Kk (linkRes gr (s, g) (i1, i2) pos).ks.length Kkc] 27)) y7).alloc (.cells #[.slice Ra (unlinkRes gr (s, g) pos).sl.length Rc, .slice Rk (unlinkRes gr (s, g) pos).ks.length Rkc] 27)) y8).alloc (.cells #[.slice Sa (unlinkRes gr (s, g) pos).sl.length Sc, .slice Sk (unlinkRes gr (s, g) pos).ks.length Skc] 27)) y9).alloc (.cells #[.slice Ea n Ec, .slice Ek kn Ekc] 27))) (by with_reducible repeat (first | exact ex_refl _ | exact ex_more | apply ex_alloc | apply ex_plus | apply ex_drew | apply ex_drewN)) (by rw [blk_alloc, if_pos (by simp [go_sem])]), (oE.sh (by simp [go_sem]; try omega) (Nat.le_trans hown.n1 (by decide)) (Nat.le_trans hown.n2 (by decide)) (fun k _ => Nat.le_trans (fA.r k) (by decide))).ex (by with_reducible repeat (first | exact ex_refl _ | exact ex_more | apply ex_alloc | apply ex_plus | apply ex_drew | apply ex_drewN))⟩⟩ ?_
  rintro v0 ⟨hv0, ha0, hc0, hp0, hr0, he0⟩
  clear oA oB oC oD oP oK oR oS oE
  generalize T.heap.size + (blocks y1).size + 1 + 1 + (blocks y2).size + 1 + 1 + (blocks y3).size + 1 + (blocks y4).size + 1 + (blocks y5).size + 1 + (blocks y6).size + 1 + (blocks y7).size + 1 + (blocks y8).size + 1 + (blocks y9).size = bE at *
  generalize T.heap.size + (blocks y1).size + 1 + 1 + (blocks y2).size + 1 + 1 + (blocks y3).size + 1 + (blocks y4).size + 1 + (blocks y5).size + 1 + (blocks y6).size + 1 + (blocks y7).size = bR at *
  generalize T.heap.size + (blocks y1).size + 1 + 1 + (blocks y2).size + 1 + 1 + (blocks y3).size + 1 + (blocks y4).size + 1 + (blocks y5).size = bP at *
  generalize T.heap.size + (blocks y1).size + 1 + 1 + (blocks y2).size + 1 + 1 + (blocks y3).size = bC at *
  generalize T.heap.size + (blocks y1).size = bA at *
  have c0 := cell_blk (i := 0) ha0.at0 rfl
  have c1 := cell_blk (i := 1) ha0.at0 rfl
  have l0 := blk_lt ha0.at0
  go_upto_region 16 with (go_at_call 27; refine (spoil_calls T _ _ _ _ _ _ _ _ ha0.sh).mono ?_; rintro e v1 ⟨rfl, hs0'⟩)
  have hv1 := sp_ex hs0' hv0
  have hc1 := hc0.sp hs0'
  have hp1 := hp0.sp hs0'
  have hr1 := hr0.sp hs0'
  have he1 := he0.sp hs0'
  clear hs0' c0 c1 l0 hv0 ha0 hc0 hp0 hr0 he0
  have c0 := cell_blk (i := 0) hc1.at0 rfl
  have c1 := cell_blk (i := 1) hc1.at0 rfl
  have l0 := blk_lt hc1.at0
  go_upto_region 17 with (go_at_call 27; refine (spoil_calls T _ _ _ _ _ _ _ _ hc1.sh).mono ?_; rintro e v2 ⟨rfl, hs1'⟩)
  have hv2 := sp_ex hs1' hv1
  have hp2 := hp1.sp hs1'
  have hr2 := hr1.sp hs1'
  have he2 := he1.sp hs1'
  clear hs1' c0 c1 l0 hv1 hc1 hp1 hr1 he1
  have c0 := cell_blk (i := 0) hp2.at0 rfl
  have c1 := cell_blk (i := 1) hp2.at0 rfl
  have l0 := blk_lt hp2.at0
  go_upto_region 18 with (go_at_call 27; refine (spoil_calls T _ _ _ _ _ _ _ _ hp2.sh).mono ?_; rintro e v3 ⟨rfl, hs2'⟩)
  have hv3 := sp_ex hs2' hv2
  have hr3 := hr2.sp hs2'
  have he3 := he2.sp hs2'
  clear hs2' c0 c1 l0 hv2 hp2 hr2 he2
  have c0 := cell_blk (i := 0) hr3.at0 rfl
  have c1 := cell_blk (i := 1) hr3.at0 rfl
  have l0 := blk_lt hr3.at0
  go_upto_region 19 with (go_at_call 27; refine (spoil_calls T _ _ _ _ _ _ _ _ hr3.sh).mono ?_; rintro e v4 ⟨rfl, hs3'⟩)
  have hv4 := sp_ex hs3' hv3
  have he4 := he3.sp hs3'
  clear hs3' c0 c1 l0 hv3 hr3 he3
  have c0 := cell_blk (i := 0) he4.at0 rfl
  have c1 := cell_blk (i := 1) he4.at0 rfl
  have l0 := blk_lt he4.at0
  go_upto_region 20 with (go_at_call 27; refine (spoil_calls T _ _ _ _ _ _ _ _ he4.sh).mono ?_; rintro e v5 ⟨rfl, hs4'⟩)
  have hv5 := sp_ex hs4' hv4
  clear hs4' c0 c1 l0 hv4 he4
  have cO5 := cell_ex hv5 cO
  have cO6 := cell_ex hv5 cO'
  have cA5 := cell_ex hv5 p0
  have cA6 := cell_ex hv5 p1
  have h1 := hown.ex hv5
  have h2 := hA1.ex hv5
  go_wp2_with (go_at_call 24; refine (plus_post (gsame_any (h1.ex (by with_reducible repeat (first | exact ex_refl _ | exact ex_more | apply ex_alloc | apply ex_plus | apply ex_drew | apply ex_drewN))) (h2.ex (by with_reducible repeat (first | exact ex_refl _ | exact ex_more | apply ex_alloc | apply ex_plus | apply ex_drew | apply ex_drewN))))).mono ?_; rintro e w' ⟨rfl, nz, rfl⟩; rw [sL])
  go_ret
  exact ⟨rfl, below_ex (by with_reducible repeat (first | exact ex_refl _ | exact ex_more | apply ex_alloc | apply ex_plus | apply ex_drew | apply ex_drewN | (apply ex_on; assumption)))⟩

set_option maxRecDepth 100000 in
theorem nodesTurn_lifted (os : Os) (started : os.Started) (H : Type) (enc : TypeId × Value → H) :
    ReturnsInHanded {} Try.checked os 4 .any (Rows.nodesTurnSpec.pre6 enc Try.prog Try.f4 Rows.nodesTurnRow.domain false) (Rows.nodesTurnSpec.post enc Try.prog Try.f4 false true false false) := by
  refine returnsInHanded_of_change_sized (C := Try.checked) own started (by kernel_rfl) Try.func4
    (ChangeSpec.witness6 (enc := enc) (C := Try.checked) false ⟨#[], #[.agg #[.slice none 0 0, .slice none 0 0], .agg #[.slice none 0 0, .slice none 0 0], .agg #[.int .i64 0, .int .i64 0], .agg #[.int .i64 0, .int .i64 0], .int .i64 0], []⟩ 8 (by kernel_rfl) (by kernel_rfl) (by kernel_rfl) (by kernel_rfl)) ?_
  intro W base args ds gs before hval0 hW hcnd hsz _
  have hval : ∀ (j : Nat) t v, Try.f4.params[j]? = some t → args[j]? = some v → Value.okWide Try.prog W .any base t v := hval0
  have hW' := hW
  obtain ⟨p, q, hA0, hV, rfl, hfz, hnd⟩ := hW
  have hA : DataW.TrodAll enc Try.prog W 0 (fun _ => true) true Try.f4.params.toList args.toList ds p := hA0
  rw [Try.params4] at hA hval
  obtain ⟨v0, vs0, d0, ds0, p0, q0, hargs, rfl, rfl, h0, r0⟩ := trodAll_cons hA
  obtain ⟨v1, vs1, d1, ds1, p1, q1, rfl, rfl, rfl, h1, r1⟩ := trodAll_cons r0
  obtain ⟨v2, vs2, d2, ds2, p2, q2, rfl, rfl, rfl, h2, r2⟩ := trodAll_cons r1
  obtain ⟨v3, vs3, d3, ds3, p3, q3, rfl, rfl, rfl, h3, r3⟩ := trodAll_cons r2
  obtain ⟨v4, vs4, d4, ds4, p4, q4, rfl, rfl, rfl, h4, r4⟩ := trodAll_cons r3
  obtain ⟨rfl, rfl, rfl⟩ := trodAll_nil r4
  obtain rfl : args = #[v0, v1, v2, v3, v4] := by cases args; simp_all
  obtain ⟨ao0, n0, cap0, ko0, kn0, kcap0, hs0, g0, rfl, hG0⟩ := open_graph Try.underlying27 (by kernel_rfl) (by kernel_rfl) Try.underlying24 (by kernel_rfl) Try.underlying22 (by kernel_rfl) Try.underlying67 (by kernel_rfl) Try.underlying3 Try.underlying4 Try.underlying25 (by kernel_rfl) Try.underlying36 (by kernel_rfl) (by kernel_rfl) (by kernel_rfl) (sm_of hsz (j := 0) (by kernel_rfl) rfl) (hval 0 27 v0 rfl rfl) h0
  obtain ⟨ao1, n1, cap1, ko1, kn1, kcap1, hs1, g1, rfl, hG1⟩ := open_graph Try.underlying27 (by kernel_rfl) (by kernel_rfl) Try.underlying24 (by kernel_rfl) Try.underlying22 (by kernel_rfl) Try.underlying67 (by kernel_rfl) Try.underlying3 Try.underlying4 Try.underlying25 (by kernel_rfl) Try.underlying36 (by kernel_rfl) (by kernel_rfl) (by kernel_rfl) (sm_of hsz (j := 1) (by kernel_rfl) rfl) (hval 1 27 v1 rfl rfl) h1
  obtain ⟨a2_0, a2_1, rfl, ca2_0, ca2_1⟩ := open_flat2 (k := 4) (t := 29) (by kernel_rfl) (by kernel_rfl) (by kernel_rfl) (hval 2 29 v2 rfl rfl) h2
  obtain ⟨a3_0, a3_1, rfl, ca3_0, ca3_1⟩ := open_flat2 (k := 4) (t := 29) (by kernel_rfl) (by kernel_rfl) (by kernel_rfl) (hval 3 29 v3 rfl rfl) h3
  obtain ⟨a4, rfl, _, _, w4⟩ := open_int Try.underlying3 (hval 4 3 v4 rfl rfl) h4
  have b4 := bounds_i64 w4
  refine (nodesTurn_walk ao0 n0 cap0 ko0 kn0 kcap0 hs0 g0 ao1 n1 cap1 ko1 kn1 kcap1 hs1 g1 a2_0 a2_1 a3_0 a3_1 a4  W hG0 hG1).mono fun e W' ⟨he, hb⟩ => ?_
  exact ⟨_, he, law_post laidOut Try.underlying4 rfl (by kernel_rfl) (by kernel_rfl) (fun ds h => match ds, h with | [_, _, _, _, _], _ => rfl) hW' hb⟩

theorem nodesTurn_holds : Rows.NodesTurnSaid :=
  OpenClaim.holds_of_wide 4 Try.f4 rfl rfl rfl rfl rfl rfl rfl ⟨rfl, rfl, rfl, rfl, rfl⟩ rfl rfl rfl rfl rfl (by kernel_rfl) Try.func4 (by kernel_rfl)
    (of_decide_eq_true (by kernel_rfl)) (by unfold Func.isWrapper; first | (rw [if_pos (by decide +kernel)]; kernel_rfl) | (rw [if_neg (by decide +kernel)]; exact ⟨rfl, rfl⟩))
    (fun os started H enc _ => nodesTurn_lifted os started H enc)
#print axioms nodesTurn_holds
end Go.Proofs.Ytmmflpjfgapaaaa
