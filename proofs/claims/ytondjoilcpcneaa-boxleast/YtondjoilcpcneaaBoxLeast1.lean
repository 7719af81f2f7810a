/- BoxLeast, some of its ways. -/
import Derived.Test.YtondjoilcpcneaaBoxLeast0
namespace Go.Proofs.Ytondjoilcpcneaa
open Go.RowKit Go.ChangeShapes Go.WideShapes Go.ChangeAt
set_option linter.unusedSimpArgs false
set_option linter.unusedVariables false
attribute [local go_sem] plus_size plus_drew dn_set dn_alloc dn_plus plus_dn cell_plus frozen_plus set_plus cell_alloc frozen_alloc set_alloc

set_option maxHeartbeats 8000000 in
set_option maxRecDepth 100000 in
theorem boxLeast_all (ao : Option Addr) (n cap : Nat) (q : Nat → V3) (a b c d o f a2 b2 c2 d2 o2 f2 x y z : Int) (w : World) (hn : n ≤ 1000) (hq : n = 0 ∨ ∃ g off, ao = some ⟨g, off, none⟩ ∧ Lies w g off n q) (tr : ofR q n = (lst q n, 0)) (h0 : 0 < n) (hA : allIn ⟨⟨a, b, c⟩, ⟨d, o, f⟩⟩ q n = true) : Calls Try.prog 8 #[.slice ao n cap, .agg #[.int .i64 a, .int .i64 b, .int .i64 c, .int .i64 d, .int .i64 o, .int .i64 f], .agg #[.int .i64 a2, .int .i64 b2, .int .i64 c2, .int .i64 d2, .int .i64 o2, .int .i64 f2], .agg #[.int .i64 x, .int .i64 y, .int .i64 z]] w fun e w' => e = .returned (.bool true) ∧ Below w.heap.size w w' := by
  have in1 : (n : Int) ≤ 1000 := by omega
  go_enter Try.func8, Try.ntmps8
  go_wp2_with (first | (go_at_call 14; refine (plus_post (alive_calls _)).mono ?_; rintro e w' ⟨rfl, na, rfl⟩) | (go_at_call 13; refine (plus_post (of_any _ _ _ q _ (by omega) (lies_ex hq (by with_reducible repeat (first | exact ex_refl _ | exact ex_more | apply ex_alloc | apply ex_plus | apply ex_drew | apply ex_drewN))))).mono ?_; rintro e w' ⟨rfl, nf, rfl⟩))
  go_loopw [12, 13] (fun lv iv wr => ∃ k : Nat, k ≤ n ∧ iv = .int .i64 k ∧ lv = .bool (allIn ⟨⟨a, b, c⟩, ⟨d, o, f⟩⟩ q k) ∧ ∃ yy, wr = plus ((plus (plus (((w.alloc (.cells #[.int .i64 a, .int .i64 b, .int .i64 c, .int .i64 d, .int .i64 o, .int .i64 f] 25)).alloc (.cells #[.int .i64 a2, .int .i64 b2, .int .i64 c2, .int .i64 d2, .int .i64 o2, .int .i64 f2] 25)).alloc (.cells #[.int .i64 x, .int .i64 y, .int .i64 z] 23)) na) nf).alloc (.cells #[.int .i64 (lst q n).lo.x, .int .i64 (lst q n).lo.y, .int .i64 (lst q n).lo.z, .int .i64 (lst q n).hi.x, .int .i64 (lst q n).hi.y, .int .i64 (lst q n).hi.z] 25)) yy) (fun _ iv _ => n - (intOf iv).toNat)
  case atStart => exact ⟨0, Nat.zero_le _, rfl, rfl, (by with_reducible repeat (first | exact ex_refl _ | exact ex_more | apply ex_alloc | apply ex_plus | apply ex_drew | apply ex_drewN))⟩
  case round =>
    obtain ⟨k, hk, rfl, rfl, yy, rfl⟩ := hrel
    by_cases hkl : k < n
    · obtain ⟨G, off, rfl, hl⟩ := hq.resolve_left (by omega)
      have hg := hl.1
      obtain ⟨y1, y2, y3⟩ := hl.2 k hkl
      have ik : (k : Int) < (n : Int) := by omega
      have hh : holdsBx ⟨⟨(lst q n).lo.x, (lst q n).lo.y, (lst q n).lo.z⟩, ⟨(lst q n).hi.x, (lst q n).hi.y, (lst q n).hi.z⟩⟩ ⟨(q k).x, (q k).y, (q k).z⟩ = true := lst_holds hkl
      cases hC : allIn ⟨⟨a, b, c⟩, ⟨d, o, f⟩⟩ q k
      · skip
        go_wp2
        refine region_plus (by kernel_rfl) (by kernel_rfl) ?_
        (repeat (go_big_quiet_step ((go_at_call 16; exact plus_of (bholds_calls _ _ _ _ _ _ _ _ _ _ )))))
        refine wpQuiet_nil ?_
        rintro _ ⟨x2, rfl⟩
        go_wp2
        refine region_plus (by kernel_rfl) (by kernel_rfl) ?_
        (repeat (go_big_quiet_step ((go_at_call 16; exact plus_of (bholds_calls _ _ _ _ _ _ _ _ _ _ )))))
        refine wpQuiet_nil ?_
        rintro _ ⟨x2, rfl⟩
        go_wp2
        go_roundw
        case rel => exact ⟨k + 1, by omega, by go_num, by simp [allIn, hC], (by with_reducible repeat (first | exact ex_refl _ | exact ex_more | apply ex_alloc | apply ex_plus | apply ex_drew | apply ex_drewN))⟩
        case measure => simp [intOf]; omega
      · cases hB : holdsBx ⟨⟨a, b, c⟩, ⟨d, o, f⟩⟩ (q k)
        · have hB' : holdsBx ⟨⟨a, b, c⟩, ⟨d, o, f⟩⟩ ⟨(q k).x, (q k).y, (q k).z⟩ = false := hB
          go_wp2
          refine region_plus (by kernel_rfl) (by kernel_rfl) ?_
          (repeat (go_big_quiet_step ((go_at_call 16; exact plus_of (bholds_calls _ _ _ _ _ _ _ _ _ _ )))))
          refine wpQuiet_nil ?_
          rintro _ ⟨x2, rfl⟩
          go_wp2
          refine region_plus (by kernel_rfl) (by kernel_rfl) ?_
          (repeat (go_big_quiet_step ((go_at_call 16; exact plus_of (bholds_calls _ _ _ _ _ _ _ _ _ _ )))))
          refine wpQuiet_nil ?_
          rintro _ ⟨x2, rfl⟩
          go_wp2
          go_roundw
          case rel => exact ⟨k + 1, by omega, by go_num, by simp [allIn, hC, hB], (by with_reducible repeat (first | exact ex_refl _ | exact ex_more | apply ex_alloc | apply ex_plus | apply ex_drew | apply ex_drewN))⟩
          case measure => simp [intOf]; omega
        · have hB' : holdsBx ⟨⟨a, b, c⟩, ⟨d, o, f⟩⟩ ⟨(q k).x, (q k).y, (q k).z⟩ = true := hB
          go_wp2
          refine region_plus (by kernel_rfl) (by kernel_rfl) ?_
          (repeat (go_big_quiet_step ((go_at_call 16; exact plus_of (bholds_calls _ _ _ _ _ _ _ _ _ _ )))))
          refine wpQuiet_nil ?_
          rintro _ ⟨x2, rfl⟩
          go_wp2
          refine region_plus (by kernel_rfl) (by kernel_rfl) ?_
          (repeat (go_big_quiet_step ((go_at_call 16; exact plus_of (bholds_calls _ _ _ _ _ _ _ _ _ _ )))))
          refine wpQuiet_nil ?_
          rintro _ ⟨x2, rfl⟩
          go_wp2
          go_roundw
          case rel => exact ⟨k + 1, by omega, by go_num, by simp [allIn, hC, hB], (by with_reducible repeat (first | exact ex_refl _ | exact ex_more | apply ex_alloc | apply ex_plus | apply ex_drew | apply ex_drewN))⟩
          case measure => simp [intOf]; omega
    · obtain rfl : k = n := by omega
      have hX : insideBx ⟨⟨(lst q k).lo.x, (lst q k).lo.y, (lst q k).lo.z⟩, ⟨(lst q k).hi.x, (lst q k).hi.y, (lst q k).hi.z⟩⟩ ⟨⟨a, b, c⟩, ⟨d, o, f⟩⟩ = true := lst_inside k h0 (allIn_at k hA)
      rcases joinR_or ⟨⟨a, b, c⟩, ⟨d, o, f⟩⟩ ⟨⟨a2, b2, c2⟩, ⟨d2, o2, f2⟩⟩ with tj | ⟨m2, tj, hm2⟩
      rotate_left
      · have hm2' : (m2 == 0) = false := by simp [hm2]
        go_wp2_with (first | (go_at_call 11; refine (plus_post (bjoin_calls _ _ _ _ _ _ _ _ _ _ _ _ _ )).mono ?_; rintro e w' ⟨rfl, nx, rfl⟩) | (go_at_call 16; refine (plus_post (bholds_calls _ _ _ _ _ _ _ _ _ _ )).mono ?_; rintro e w' ⟨rfl, nx, rfl⟩) | (go_at_call 20; refine (plus_post (binside_calls _ _ _ _ _ _ _ _ _ _ _ _ _ )).mono ?_; rintro e w' ⟨rfl, nx, rfl⟩))
        go_ret
        exact ⟨rfl, by with_reducible repeat (first | exact Below.refl _ _ | apply ba | apply bp | apply bd | apply bn)⟩
      have ja : insideBx ⟨⟨a, b, c⟩, ⟨d, o, f⟩⟩ ⟨⟨(joinBx ⟨⟨a, b, c⟩, ⟨d, o, f⟩⟩ ⟨⟨a2, b2, c2⟩, ⟨d2, o2, f2⟩⟩).lo.x, (joinBx ⟨⟨a, b, c⟩, ⟨d, o, f⟩⟩ ⟨⟨a2, b2, c2⟩, ⟨d2, o2, f2⟩⟩).lo.y, (joinBx ⟨⟨a, b, c⟩, ⟨d, o, f⟩⟩ ⟨⟨a2, b2, c2⟩, ⟨d2, o2, f2⟩⟩).lo.z⟩, ⟨(joinBx ⟨⟨a, b, c⟩, ⟨d, o, f⟩⟩ ⟨⟨a2, b2, c2⟩, ⟨d2, o2, f2⟩⟩).hi.x, (joinBx ⟨⟨a, b, c⟩, ⟨d, o, f⟩⟩ ⟨⟨a2, b2, c2⟩, ⟨d2, o2, f2⟩⟩).hi.y, (joinBx ⟨⟨a, b, c⟩, ⟨d, o, f⟩⟩ ⟨⟨a2, b2, c2⟩, ⟨d2, o2, f2⟩⟩).hi.z⟩⟩ = true := (join_has ⟨⟨a, b, c⟩, ⟨d, o, f⟩⟩ ⟨⟨a2, b2, c2⟩, ⟨d2, o2, f2⟩⟩).1
      have jb : insideBx ⟨⟨a2, b2, c2⟩, ⟨d2, o2, f2⟩⟩ ⟨⟨(joinBx ⟨⟨a, b, c⟩, ⟨d, o, f⟩⟩ ⟨⟨a2, b2, c2⟩, ⟨d2, o2, f2⟩⟩).lo.x, (joinBx ⟨⟨a, b, c⟩, ⟨d, o, f⟩⟩ ⟨⟨a2, b2, c2⟩, ⟨d2, o2, f2⟩⟩).lo.y, (joinBx ⟨⟨a, b, c⟩, ⟨d, o, f⟩⟩ ⟨⟨a2, b2, c2⟩, ⟨d2, o2, f2⟩⟩).lo.z⟩, ⟨(joinBx ⟨⟨a, b, c⟩, ⟨d, o, f⟩⟩ ⟨⟨a2, b2, c2⟩, ⟨d2, o2, f2⟩⟩).hi.x, (joinBx ⟨⟨a, b, c⟩, ⟨d, o, f⟩⟩ ⟨⟨a2, b2, c2⟩, ⟨d2, o2, f2⟩⟩).hi.y, (joinBx ⟨⟨a, b, c⟩, ⟨d, o, f⟩⟩ ⟨⟨a2, b2, c2⟩, ⟨d2, o2, f2⟩⟩).hi.z⟩⟩ = true := (join_has ⟨⟨a, b, c⟩, ⟨d, o, f⟩⟩ ⟨⟨a2, b2, c2⟩, ⟨d2, o2, f2⟩⟩).2
      have jh : holdsBx ⟨⟨a, b, c⟩, ⟨d, o, f⟩⟩ ⟨x, y, z⟩ = true ∨ holdsBx ⟨⟨a2, b2, c2⟩, ⟨d2, o2, f2⟩⟩ ⟨x, y, z⟩ = true → holdsBx ⟨⟨(joinBx ⟨⟨a, b, c⟩, ⟨d, o, f⟩⟩ ⟨⟨a2, b2, c2⟩, ⟨d2, o2, f2⟩⟩).lo.x, (joinBx ⟨⟨a, b, c⟩, ⟨d, o, f⟩⟩ ⟨⟨a2, b2, c2⟩, ⟨d2, o2, f2⟩⟩).lo.y, (joinBx ⟨⟨a, b, c⟩, ⟨d, o, f⟩⟩ ⟨⟨a2, b2, c2⟩, ⟨d2, o2, f2⟩⟩).lo.z⟩, ⟨(joinBx ⟨⟨a, b, c⟩, ⟨d, o, f⟩⟩ ⟨⟨a2, b2, c2⟩, ⟨d2, o2, f2⟩⟩).hi.x, (joinBx ⟨⟨a, b, c⟩, ⟨d, o, f⟩⟩ ⟨⟨a2, b2, c2⟩, ⟨d2, o2, f2⟩⟩).hi.y, (joinBx ⟨⟨a, b, c⟩, ⟨d, o, f⟩⟩ ⟨⟨a2, b2, c2⟩, ⟨d2, o2, f2⟩⟩).hi.z⟩⟩ ⟨x, y, z⟩ = true := join_holds
      cases h1 : holdsBx ⟨⟨a, b, c⟩, ⟨d, o, f⟩⟩ ⟨x, y, z⟩
      · cases h2 : holdsBx ⟨⟨a2, b2, c2⟩, ⟨d2, o2, f2⟩⟩ ⟨x, y, z⟩
        · clear jh
          have jx : insideBx ⟨⟨a, b, c⟩, ⟨d, o, f⟩⟩ ⟨⟨(lst q k).lo.x, (lst q k).lo.y, (lst q k).lo.z⟩, ⟨(lst q k).hi.x, (lst q k).hi.y, (lst q k).hi.z⟩⟩ = true → insideBx ⟨⟨a2, b2, c2⟩, ⟨d2, o2, f2⟩⟩ ⟨⟨(lst q k).lo.x, (lst q k).lo.y, (lst q k).lo.z⟩, ⟨(lst q k).hi.x, (lst q k).hi.y, (lst q k).hi.z⟩⟩ = true → insideBx ⟨⟨(joinBx ⟨⟨a, b, c⟩, ⟨d, o, f⟩⟩ ⟨⟨a2, b2, c2⟩, ⟨d2, o2, f2⟩⟩).lo.x, (joinBx ⟨⟨a, b, c⟩, ⟨d, o, f⟩⟩ ⟨⟨a2, b2, c2⟩, ⟨d2, o2, f2⟩⟩).lo.y, (joinBx ⟨⟨a, b, c⟩, ⟨d, o, f⟩⟩ ⟨⟨a2, b2, c2⟩, ⟨d2, o2, f2⟩⟩).lo.z⟩, ⟨(joinBx ⟨⟨a, b, c⟩, ⟨d, o, f⟩⟩ ⟨⟨a2, b2, c2⟩, ⟨d2, o2, f2⟩⟩).hi.x, (joinBx ⟨⟨a, b, c⟩, ⟨d, o, f⟩⟩ ⟨⟨a2, b2, c2⟩, ⟨d2, o2, f2⟩⟩).hi.y, (joinBx ⟨⟨a, b, c⟩, ⟨d, o, f⟩⟩ ⟨⟨a2, b2, c2⟩, ⟨d2, o2, f2⟩⟩).hi.z⟩⟩ ⟨⟨(lst q k).lo.x, (lst q k).lo.y, (lst q k).lo.z⟩, ⟨(lst q k).hi.x, (lst q k).hi.y, (lst q k).hi.z⟩⟩ = true := fun h3 h4 => join_inside h3 h4
          cases h3 : insideBx ⟨⟨a, b, c⟩, ⟨d, o, f⟩⟩ ⟨⟨(lst q k).lo.x, (lst q k).lo.y, (lst q k).lo.z⟩, ⟨(lst q k).hi.x, (lst q k).hi.y, (lst q k).hi.z⟩⟩
          · clear jx
            go_wp2_with (first | (go_at_call 11; refine (plus_post (bjoin_calls _ _ _ _ _ _ _ _ _ _ _ _ _ )).mono ?_; rintro e w' ⟨rfl, nx, rfl⟩) | (go_at_call 16; refine (plus_post (bholds_calls _ _ _ _ _ _ _ _ _ _ )).mono ?_; rintro e w' ⟨rfl, nx, rfl⟩) | (go_at_call 20; refine (plus_post (binside_calls _ _ _ _ _ _ _ _ _ _ _ _ _ )).mono ?_; rintro e w' ⟨rfl, nx, rfl⟩))
            go_ret
            exact ⟨rfl, by with_reducible repeat (first | exact Below.refl _ _ | apply ba | apply bp | apply bd | apply bn)⟩
          · cases h4 : insideBx ⟨⟨a2, b2, c2⟩, ⟨d2, o2, f2⟩⟩ ⟨⟨(lst q k).lo.x, (lst q k).lo.y, (lst q k).lo.z⟩, ⟨(lst q k).hi.x, (lst q k).hi.y, (lst q k).hi.z⟩⟩
            · clear jx
              go_wp2_with (first | (go_at_call 11; refine (plus_post (bjoin_calls _ _ _ _ _ _ _ _ _ _ _ _ _ )).mono ?_; rintro e w' ⟨rfl, nx, rfl⟩) | (go_at_call 16; refine (plus_post (bholds_calls _ _ _ _ _ _ _ _ _ _ )).mono ?_; rintro e w' ⟨rfl, nx, rfl⟩) | (go_at_call 20; refine (plus_post (binside_calls _ _ _ _ _ _ _ _ _ _ _ _ _ )).mono ?_; rintro e w' ⟨rfl, nx, rfl⟩))
              go_ret
              exact ⟨rfl, by with_reducible repeat (first | exact Below.refl _ _ | apply ba | apply bp | apply bd | apply bn)⟩
            · replace jx := jx h3 h4
              go_wp2_with (first | (go_at_call 11; refine (plus_post (bjoin_calls _ _ _ _ _ _ _ _ _ _ _ _ _ )).mono ?_; rintro e w' ⟨rfl, nx, rfl⟩) | (go_at_call 16; refine (plus_post (bholds_calls _ _ _ _ _ _ _ _ _ _ )).mono ?_; rintro e w' ⟨rfl, nx, rfl⟩) | (go_at_call 20; refine (plus_post (binside_calls _ _ _ _ _ _ _ _ _ _ _ _ _ )).mono ?_; rintro e w' ⟨rfl, nx, rfl⟩))
              go_ret
              exact ⟨rfl, by with_reducible repeat (first | exact Below.refl _ _ | apply ba | apply bp | apply bd | apply bn)⟩
        · replace jh := jh (.inr h2)
          have jx : insideBx ⟨⟨a, b, c⟩, ⟨d, o, f⟩⟩ ⟨⟨(lst q k).lo.x, (lst q k).lo.y, (lst q k).lo.z⟩, ⟨(lst q k).hi.x, (lst q k).hi.y, (lst q k).hi.z⟩⟩ = true → insideBx ⟨⟨a2, b2, c2⟩, ⟨d2, o2, f2⟩⟩ ⟨⟨(lst q k).lo.x, (lst q k).lo.y, (lst q k).lo.z⟩, ⟨(lst q k).hi.x, (lst q k).hi.y, (lst q k).hi.z⟩⟩ = true → insideBx ⟨⟨(joinBx ⟨⟨a, b, c⟩, ⟨d, o, f⟩⟩ ⟨⟨a2, b2, c2⟩, ⟨d2, o2, f2⟩⟩).lo.x, (joinBx ⟨⟨a, b, c⟩, ⟨d, o, f⟩⟩ ⟨⟨a2, b2, c2⟩, ⟨d2, o2, f2⟩⟩).lo.y, (joinBx ⟨⟨a, b, c⟩, ⟨d, o, f⟩⟩ ⟨⟨a2, b2, c2⟩, ⟨d2, o2, f2⟩⟩).lo.z⟩, ⟨(joinBx ⟨⟨a, b, c⟩, ⟨d, o, f⟩⟩ ⟨⟨a2, b2, c2⟩, ⟨d2, o2, f2⟩⟩).hi.x, (joinBx ⟨⟨a, b, c⟩, ⟨d, o, f⟩⟩ ⟨⟨a2, b2, c2⟩, ⟨d2, o2, f2⟩⟩).hi.y, (joinBx ⟨⟨a, b, c⟩, ⟨d, o, f⟩⟩ ⟨⟨a2, b2, c2⟩, ⟨d2, o2, f2⟩⟩).hi.z⟩⟩ ⟨⟨(lst q k).lo.x, (lst q k).lo.y, (lst q k).lo.z⟩, ⟨(lst q k).hi.x, (lst q k).hi.y, (lst q k).hi.z⟩⟩ = true := fun h3 h4 => join_inside h3 h4
          cases h3 : insideBx ⟨⟨a, b, c⟩, ⟨d, o, f⟩⟩ ⟨⟨(lst q k).lo.x, (lst q k).lo.y, (lst q k).lo.z⟩, ⟨(lst q k).hi.x, (lst q k).hi.y, (lst q k).hi.z⟩⟩
          · clear jx
            go_wp2_with (first | (go_at_call 11; refine (plus_post (bjoin_calls _ _ _ _ _ _ _ _ _ _ _ _ _ )).mono ?_; rintro e w' ⟨rfl, nx, rfl⟩) | (go_at_call 16; refine (plus_post (bholds_calls _ _ _ _ _ _ _ _ _ _ )).mono ?_; rintro e w' ⟨rfl, nx, rfl⟩) | (go_at_call 20; refine (plus_post (binside_calls _ _ _ _ _ _ _ _ _ _ _ _ _ )).mono ?_; rintro e w' ⟨rfl, nx, rfl⟩))
            go_ret
            exact ⟨rfl, by with_reducible repeat (first | exact Below.refl _ _ | apply ba | apply bp | apply bd | apply bn)⟩
          · cases h4 : insideBx ⟨⟨a2, b2, c2⟩, ⟨d2, o2, f2⟩⟩ ⟨⟨(lst q k).lo.x, (lst q k).lo.y, (lst q k).lo.z⟩, ⟨(lst q k).hi.x, (lst q k).hi.y, (lst q k).hi.z⟩⟩
            · clear jx
              go_wp2_with (first | (go_at_call 11; refine (plus_post (bjoin_calls _ _ _ _ _ _ _ _ _ _ _ _ _ )).mono ?_; rintro e w' ⟨rfl, nx, rfl⟩) | (go_at_call 16; refine (plus_post (bholds_calls _ _ _ _ _ _ _ _ _ _ )).mono ?_; rintro e w' ⟨rfl, nx, rfl⟩) | (go_at_call 20; refine (plus_post (binside_calls _ _ _ _ _ _ _ _ _ _ _ _ _ )).mono ?_; rintro e w' ⟨rfl, nx, rfl⟩))
              go_ret
              exact ⟨rfl, by with_reducible repeat (first | exact Below.refl _ _ | apply ba | apply bp | apply bd | apply bn)⟩
            · replace jx := jx h3 h4
              go_wp2_with (first | (go_at_call 11; refine (plus_post (bjoin_calls _ _ _ _ _ _ _ _ _ _ _ _ _ )).mono ?_; rintro e w' ⟨rfl, nx, rfl⟩) | (go_at_call 16; refine (plus_post (bholds_calls _ _ _ _ _ _ _ _ _ _ )).mono ?_; rintro e w' ⟨rfl, nx, rfl⟩) | (go_at_call 20; refine (plus_post (binside_calls _ _ _ _ _ _ _ _ _ _ _ _ _ )).mono ?_; rintro e w' ⟨rfl, nx, rfl⟩))
              go_ret
              exact ⟨rfl, by with_reducible repeat (first | exact Below.refl _ _ | apply ba | apply bp | apply bd | apply bn)⟩
      · replace jh := jh (.inl h1)
        have jx : insideBx ⟨⟨a, b, c⟩, ⟨d, o, f⟩⟩ ⟨⟨(lst q k).lo.x, (lst q k).lo.y, (lst q k).lo.z⟩, ⟨(lst q k).hi.x, (lst q k).hi.y, (lst q k).hi.z⟩⟩ = true → insideBx ⟨⟨a2, b2, c2⟩, ⟨d2, o2, f2⟩⟩ ⟨⟨(lst q k).lo.x, (lst q k).lo.y, (lst q k).lo.z⟩, ⟨(lst q k).hi.x, (lst q k).hi.y, (lst q k).hi.z⟩⟩ = true → insideBx ⟨⟨(joinBx ⟨⟨a, b, c⟩, ⟨d, o, f⟩⟩ ⟨⟨a2, b2, c2⟩, ⟨d2, o2, f2⟩⟩).lo.x, (joinBx ⟨⟨a, b, c⟩, ⟨d, o, f⟩⟩ ⟨⟨a2, b2, c2⟩, ⟨d2, o2, f2⟩⟩).lo.y, (joinBx ⟨⟨a, b, c⟩, ⟨d, o, f⟩⟩ ⟨⟨a2, b2, c2⟩, ⟨d2, o2, f2⟩⟩).lo.z⟩, ⟨(joinBx ⟨⟨a, b, c⟩, ⟨d, o, f⟩⟩ ⟨⟨a2, b2, c2⟩, ⟨d2, o2, f2⟩⟩).hi.x, (joinBx ⟨⟨a, b, c⟩, ⟨d, o, f⟩⟩ ⟨⟨a2, b2, c2⟩, ⟨d2, o2, f2⟩⟩).hi.y, (joinBx ⟨⟨a, b, c⟩, ⟨d, o, f⟩⟩ ⟨⟨a2, b2, c2⟩, ⟨d2, o2, f2⟩⟩).hi.z⟩⟩ ⟨⟨(lst q k).lo.x, (lst q k).lo.y, (lst q k).lo.z⟩, ⟨(lst q k).hi.x, (lst q k).hi.y, (lst q k).hi.z⟩⟩ = true := fun h3 h4 => join_inside h3 h4
        cases h3 : insideBx ⟨⟨a, b, c⟩, ⟨d, o, f⟩⟩ ⟨⟨(lst q k).lo.x, (lst q k).lo.y, (lst q k).lo.z⟩, ⟨(lst q k).hi.x, (lst q k).hi.y, (lst q k).hi.z⟩⟩
        · clear jx
          go_wp2_with (first | (go_at_call 11; refine (plus_post (bjoin_calls _ _ _ _ _ _ _ _ _ _ _ _ _ )).mono ?_; rintro e w' ⟨rfl, nx, rfl⟩) | (go_at_call 16; refine (plus_post (bholds_calls _ _ _ _ _ _ _ _ _ _ )).mono ?_; rintro e w' ⟨rfl, nx, rfl⟩) | (go_at_call 20; refine (plus_post (binside_calls _ _ _ _ _ _ _ _ _ _ _ _ _ )).mono ?_; rintro e w' ⟨rfl, nx, rfl⟩))
          go_ret
          exact ⟨rfl, by with_reducible repeat (first | exact Below.refl _ _ | apply ba | apply bp | apply bd | apply bn)⟩
        · cases h4 : insideBx ⟨⟨a2, b2, c2⟩, ⟨d2, o2, f2⟩⟩ ⟨⟨(lst q k).lo.x, (lst q k).lo.y, (lst q k).lo.z⟩, ⟨(lst q k).hi.x, (lst q k).hi.y, (lst q k).hi.z⟩⟩
          · clear jx
            go_wp2_with (first | (go_at_call 11; refine (plus_post (bjoin_calls _ _ _ _ _ _ _ _ _ _ _ _ _ )).mono ?_; rintro e w' ⟨rfl, nx, rfl⟩) | (go_at_call 16; refine (plus_post (bholds_calls _ _ _ _ _ _ _ _ _ _ )).mono ?_; rintro e w' ⟨rfl, nx, rfl⟩) | (go_at_call 20; refine (plus_post (binside_calls _ _ _ _ _ _ _ _ _ _ _ _ _ )).mono ?_; rintro e w' ⟨rfl, nx, rfl⟩))
            go_ret
            exact ⟨rfl, by with_reducible repeat (first | exact Below.refl _ _ | apply ba | apply bp | apply bd | apply bn)⟩
          · replace jx := jx h3 h4
            go_wp2_with (first | (go_at_call 11; refine (plus_post (bjoin_calls _ _ _ _ _ _ _ _ _ _ _ _ _ )).mono ?_; rintro e w' ⟨rfl, nx, rfl⟩) | (go_at_call 16; refine (plus_post (bholds_calls _ _ _ _ _ _ _ _ _ _ )).mono ?_; rintro e w' ⟨rfl, nx, rfl⟩) | (go_at_call 20; refine (plus_post (binside_calls _ _ _ _ _ _ _ _ _ _ _ _ _ )).mono ?_; rintro e w' ⟨rfl, nx, rfl⟩))
            go_ret
            exact ⟨rfl, by with_reducible repeat (first | exact Below.refl _ _ | apply ba | apply bp | apply bd | apply bn)⟩

end Go.Proofs.Ytondjoilcpcneaa
