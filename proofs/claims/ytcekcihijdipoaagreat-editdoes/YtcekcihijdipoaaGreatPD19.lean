/- A pack of texts: St3, St4, EdLk, EdLc, Mesh8. -/
import Derived.Test.YtcekcihijdipoaaGreatPD18
namespace Go.Proofs.YtcekcihijdipoaaGreat
set_option maxRecDepth 100000
set_option maxHeartbeats 16000000
open Go.RowKit Go.ChangeShapes Go.WideShapes Go.ChangeAt
set_option linter.unusedSimpArgs false
set_option linter.unusedVariables false
attribute [local go_sem] qn qZ A2 zg zz zA t5 qJ zf qO qD t6
section
@[local go_sem] theorem aD0 (a b c d e:Value) (w:World):(Instr.index 223 (.agg #[a,b,c,d,e]) (.int .i64 0)).run Tryz.prog w=.ok a w:=kr0
@[local go_sem] theorem aA2 (a b c d e:Value) (w:World):(Instr.index 223 (.agg #[a,b,c,d,e]) (.int .i64 1)).run Tryz.prog w=.ok b w:=kr0
@[local go_sem] theorem aA9 (a b c d e:Value) (w:World):(Instr.index 223 (.agg #[a,b,c,d,e]) (.int .i64 2)).run Tryz.prog w=.ok c w:=kr0
@[local go_sem] theorem a9U (a b c d e:Value) (w:World):(Instr.index 223 (.agg #[a,b,c,d,e]) (.int .i64 3)).run Tryz.prog w=.ok d w:=kr0
@[local go_sem] theorem aC4 (a b c d e:Value) (w:World):(Instr.index 223 (.agg #[a,b,c,d,e]) (.int .i64 4)).run Tryz.prog w=.ok e w:=kr0
theorem ae3(s0 s1 s2 s3 s4:Int)(vr vg vb va vt vc vi:Int)(vl:Bool)(vn:Int)(w:World):
  Calls Tryz.prog 146 #[.agg #[.int .u8 s0,.int .u8 s1,.int .u8 s2,.int .u8 s3,.int .u8 s4,.int .u8 vr,.int .u8 vg,.int .u8 vb,.int .u8 va,.int .i64 vt,.int .u8 vc,.int .i64 vi,.bool vl,.int .i64 vn]] w fun e w'=>e=.returned (.agg #[.int .u8 ((ah6 ⟨s0,s1,s2,s3,s4,⟨vr,vg,vb,va,vt,vc,vi,vl,vn⟩⟩)).r,.int .u8 ((ah6 ⟨s0,s1,s2,s3,s4,⟨vr,vg,vb,va,vt,vc,vi,vl,vn⟩⟩)).g,.int .u8 ((ah6 ⟨s0,s1,s2,s3,s4,⟨vr,vg,vb,va,vt,vc,vi,vl,vn⟩⟩)).b,.int .u8 ((ah6 ⟨s0,s1,s2,s3,s4,⟨vr,vg,vb,va,vt,vc,vi,vl,vn⟩⟩)).a,.int .i64 ((ah6 ⟨s0,s1,s2,s3,s4,⟨vr,vg,vb,va,vt,vc,vi,vl,vn⟩⟩)).tx,.int .u8 ((ah6 ⟨s0,s1,s2,s3,s4,⟨vr,vg,vb,va,vt,vc,vi,vl,vn⟩⟩)).cu,.int .i64 ((ah6 ⟨s0,s1,s2,s3,s4,⟨vr,vg,vb,va,vt,vc,vi,vl,vn⟩⟩)).bi,.bool ((ah6 ⟨s0,s1,s2,s3,s4,⟨vr,vg,vb,va,vt,vc,vi,vl,vn⟩⟩)).bl,.int .i64 ((ah6 ⟨s0,s1,s2,s3,s4,⟨vr,vg,vb,va,vt,vc,vi,vl,vn⟩⟩)).bn])∧Below w.heap.size w w':=by
 obtain⟨S,hS⟩:∃S:Sy,S=⟨s0,s1,s2,s3,s4,⟨vr,vg,vb,va,vt,vc,vi,vl,vn⟩⟩:=⟨_,rfl⟩;rw[←hS];go_enter Tryz.func146,Tryz.ntmps146;go_wp2_with (go_at_call 175;refine pm0 (a0H _) fun nx=>?_);go_loopw [7] (fun i wr=>∃(k:Nat) (kv:Int),k≤5∧kv=k∧i=.int .i64 kv∧∃x,wr=plus (((w.alloc (.cells #[.int .u8 s0,.int .u8 s1,.int .u8 s2,.int .u8 s3,.int .u8 s4,.int .u8 vr,.int .u8 vg,.int .u8 vb,.int .u8 va,.int .i64 vt,.int .u8 vc,.int .i64 vi,.bool vl,.int .i64 vn] 54)).alloc (.cells #[.int .u8 0,.int .u8 0,.int .u8 0,.int .u8 0,.int .i64 0,.int .u8 0,.int .i64 0,.bool false,.int .i64 0] 52)).alloc (.cells #[.int .u8 ((B2 S k)).r,.int .u8 ((B2 S k)).g,.int .u8 ((B2 S k)).b,.int .u8 ((B2 S k)).a,.int .i64 ((B2 S k)).tx,.int .u8 ((B2 S k)).cu,.int .i64 ((B2 S k)).bi,.bool ((B2 S k)).bl,.int .i64 ((B2 S k)).bn] 52)) x) (fun i _=>5 - (intOf i).toNat)
 case atStart=>exact⟨0,0,om0,rfl,rfl,by simp only[B2,lk0];exact sk0⟩
 case round=>
  obtain⟨k,kv,hk,hkv,rfl,x,rfl⟩:=hrel;rcases(show k=0∨k=1∨k=2∨k=3∨k=4∨k=5 by omega)with rfl|rfl|rfl|rfl|rfl|rfl
  ·obtain rfl:kv=0:=om0;obtain⟨J,hJ⟩:∃J,B2 S 0=J:=⟨_,rfl⟩;rw[hJ];by_cases hs:s0=0
   ·have e:B2 S 1=J:=by
     show sd S (B2 S 0) 0=J;rw[hJ,hS];simp[sd,t0,hs]
    clear hS hkv hk hJ;subst hs;go_wp2;go_roundw
    case rel=>exact⟨1,1,om0,rfl,by go_num,by rw[e];exact sk0⟩
    case measure=>simp[intOf]
   ·have e:B2 S 1=⟨vr,vg,vb,va,J.tx,J.cu,J.bi,J.bl,J.bn⟩:=by
     show sd S (B2 S 0) 0=_;rw[hJ,hS];simp[sd,t0,hs]
    clear hS hkv hk hJ;go_wp2_with (first|(go_at_call 185;refine pm0 (J2 _ _ _ _ _ _ _ _ _ _ _ _ _ _ _ _ _ _ _) fun nx=>?_)|(go_at_call 186;refine pm0 (F9 _ _ _ _ _ _ _ _ _ _ _ _ _ _ _ _ _ _ _) fun nx=>?_)|(go_at_call 187;refine pm0 (L9 _ _ _ _ _ _ _ _ _ _ _ _ _ _ _ _ _ _ _) fun nx=>?_)|(go_at_call 188;refine pm0 (L7 _ _ _ _ _ _ _ _ _ _ _ _ _ _ _ _ _ _ _) fun nx=>?_)|(go_at_call 189;refine pm0 (K4 _ _ _ _ _ _ _ _ _ _ _ _ _ _ _ _ _ _ _) fun nx=>?_));go_roundw
    case rel=>exact⟨1,1,om0,rfl,by go_num,by simp only[e];exact sk0⟩
    case measure=>simp[intOf]
  ·obtain rfl:kv=1:=om0;obtain⟨J,hJ⟩:∃J,B2 S 1=J:=⟨_,rfl⟩;rw[hJ];by_cases hs:s1=0
   ·have e:B2 S 2=J:=by
     show sd S (B2 S 1) 1=J;rw[hJ,hS];simp[sd,t1,hs]
    clear hS hkv hk hJ;subst hs;go_wp2;go_roundw
    case rel=>exact⟨2,2,om0,rfl,by go_num,by rw[e];exact sk0⟩
    case measure=>simp[intOf]
   ·have e:B2 S 2=⟨J.r,J.g,J.b,J.a,vt,J.cu,J.bi,J.bl,J.bn⟩:=by
     show sd S (B2 S 1) 1=_;rw[hJ,hS];simp[sd,t1,hs]
    clear hS hkv hk hJ;go_wp2_with (first|(go_at_call 185;refine pm0 (J2 _ _ _ _ _ _ _ _ _ _ _ _ _ _ _ _ _ _ _) fun nx=>?_)|(go_at_call 186;refine pm0 (F9 _ _ _ _ _ _ _ _ _ _ _ _ _ _ _ _ _ _ _) fun nx=>?_)|(go_at_call 187;refine pm0 (L9 _ _ _ _ _ _ _ _ _ _ _ _ _ _ _ _ _ _ _) fun nx=>?_)|(go_at_call 188;refine pm0 (L7 _ _ _ _ _ _ _ _ _ _ _ _ _ _ _ _ _ _ _) fun nx=>?_)|(go_at_call 189;refine pm0 (K4 _ _ _ _ _ _ _ _ _ _ _ _ _ _ _ _ _ _ _) fun nx=>?_));go_roundw
    case rel=>exact⟨2,2,om0,rfl,by go_num,by simp only[e];exact sk0⟩
    case measure=>simp[intOf]
  ·obtain rfl:kv=2:=om0;obtain⟨J,hJ⟩:∃J,B2 S 2=J:=⟨_,rfl⟩;rw[hJ];by_cases hs:s2=0
   ·have e:B2 S 3=J:=by
     show sd S (B2 S 2) 2=J;rw[hJ,hS];simp[sd,t2,hs]
    clear hS hkv hk hJ;subst hs;go_wp2;go_roundw
    case rel=>exact⟨3,3,om0,rfl,by go_num,by rw[e];exact sk0⟩
    case measure=>simp[intOf]
   ·have e:B2 S 3=⟨J.r,J.g,J.b,J.a,J.tx,vc,J.bi,J.bl,J.bn⟩:=by
     show sd S (B2 S 2) 2=_;rw[hJ,hS];simp[sd,t2,hs]
    clear hS hkv hk hJ;go_wp2_with (first|(go_at_call 185;refine pm0 (J2 _ _ _ _ _ _ _ _ _ _ _ _ _ _ _ _ _ _ _) fun nx=>?_)|(go_at_call 186;refine pm0 (F9 _ _ _ _ _ _ _ _ _ _ _ _ _ _ _ _ _ _ _) fun nx=>?_)|(go_at_call 187;refine pm0 (L9 _ _ _ _ _ _ _ _ _ _ _ _ _ _ _ _ _ _ _) fun nx=>?_)|(go_at_call 188;refine pm0 (L7 _ _ _ _ _ _ _ _ _ _ _ _ _ _ _ _ _ _ _) fun nx=>?_)|(go_at_call 189;refine pm0 (K4 _ _ _ _ _ _ _ _ _ _ _ _ _ _ _ _ _ _ _) fun nx=>?_));go_roundw
    case rel=>exact⟨3,3,om0,rfl,by go_num,by simp only[e];exact sk0⟩
    case measure=>simp[intOf]
  ·obtain rfl:kv=3:=om0;obtain⟨J,hJ⟩:∃J,B2 S 3=J:=⟨_,rfl⟩;rw[hJ];by_cases hs:s3=0
   ·have e:B2 S 4=J:=by
     show sd S (B2 S 3) 3=J;rw[hJ,hS];simp[sd,t3,hs]
    clear hS hkv hk hJ;subst hs;go_wp2;go_roundw
    case rel=>exact⟨4,4,om0,rfl,by go_num,by rw[e];exact sk0⟩
    case measure=>simp[intOf]
   ·have e:B2 S 4=⟨J.r,J.g,J.b,J.a,J.tx,J.cu,vi,J.bl,J.bn⟩:=by
     show sd S (B2 S 3) 3=_;rw[hJ,hS];simp[sd,t3,hs]
    clear hS hkv hk hJ;go_wp2_with (first|(go_at_call 185;refine pm0 (J2 _ _ _ _ _ _ _ _ _ _ _ _ _ _ _ _ _ _ _) fun nx=>?_)|(go_at_call 186;refine pm0 (F9 _ _ _ _ _ _ _ _ _ _ _ _ _ _ _ _ _ _ _) fun nx=>?_)|(go_at_call 187;refine pm0 (L9 _ _ _ _ _ _ _ _ _ _ _ _ _ _ _ _ _ _ _) fun nx=>?_)|(go_at_call 188;refine pm0 (L7 _ _ _ _ _ _ _ _ _ _ _ _ _ _ _ _ _ _ _) fun nx=>?_)|(go_at_call 189;refine pm0 (K4 _ _ _ _ _ _ _ _ _ _ _ _ _ _ _ _ _ _ _) fun nx=>?_));go_roundw
    case rel=>exact⟨4,4,om0,rfl,by go_num,by simp only[e];exact sk0⟩
    case measure=>simp[intOf]
  ·obtain rfl:kv=4:=om0;obtain⟨J,hJ⟩:∃J,B2 S 4=J:=⟨_,rfl⟩;rw[hJ];by_cases hs:s4=0
   ·have e:B2 S 5=J:=by
     show sd S (B2 S 4) 4=J;rw[hJ,hS];simp[sd,t4,hs]
    clear hS hkv hk hJ;subst hs;go_wp2;go_roundw
    case rel=>exact⟨5,5,om0,rfl,by go_num,by rw[e];exact sk0⟩
    case measure=>simp[intOf]
   ·have e:B2 S 5=⟨J.r,J.g,J.b,J.a,J.tx,J.cu,J.bi,vl,vn⟩:=by
     show sd S (B2 S 4) 4=_;rw[hJ,hS];simp[sd,t4,hs]
    clear hS hkv hk hJ;go_wp2_with (first|(go_at_call 185;refine pm0 (J2 _ _ _ _ _ _ _ _ _ _ _ _ _ _ _ _ _ _ _) fun nx=>?_)|(go_at_call 186;refine pm0 (F9 _ _ _ _ _ _ _ _ _ _ _ _ _ _ _ _ _ _ _) fun nx=>?_)|(go_at_call 187;refine pm0 (L9 _ _ _ _ _ _ _ _ _ _ _ _ _ _ _ _ _ _ _) fun nx=>?_)|(go_at_call 188;refine pm0 (L7 _ _ _ _ _ _ _ _ _ _ _ _ _ _ _ _ _ _ _) fun nx=>?_)|(go_at_call 189;refine pm0 (K4 _ _ _ _ _ _ _ _ _ _ _ _ _ _ _ _ _ _ _) fun nx=>?_));go_roundw
    case rel=>exact⟨5,5,om0,rfl,by go_num,by simp only[e];exact sk0⟩
    case measure=>simp[intOf]
  ·obtain rfl:kv=5:=om0;clear hS hkv hk;rw[show B2 S 5=ah6 S from rfl];go_wp2;exact bodyPost_ret (v:=.agg #[.int .u8 ((ah6 S)).r,.int .u8 ((ah6 S)).g,.int .u8 ((ah6 S)).b,.int .u8 ((ah6 S)).a,.int .i64 ((ah6 S)).tx,.int .u8 ((ah6 S)).cu,.int .i64 ((ah6 S)).bi,.bool ((ah6 S)).bl,.int .i64 ((ah6 S)).bn]) (by simp[results,Tryz.results146,go_sem,↓IntWalk.iteOmega]) rfl ⟨by rfl,skB⟩
end
section
attribute [local go_sem] a3f a24
attribute [local go_sem] col_49
attribute [local go_sem] col_50
attribute [local go_sem] col9_49
attribute [local go_sem] col9_50
attribute [local go_sem] col8_49
attribute [local go_sem] col8_50
attribute [local go_sem] larr_48
@[local go_sem] theorem aC9 (a b c d e:Value) (w:World):(Instr.index 48 (.agg #[a,b,c,d,e]) (.int .i64 0)).run Tryz.prog w=.ok a w:=kr0
@[local go_sem] theorem aB1 (a b c d e:Value) (w:World):(Instr.index 48 (.agg #[a,b,c,d,e]) (.int .i64 1)).run Tryz.prog w=.ok b w:=kr0
@[local go_sem] theorem aA1 (a b c d e:Value) (w:World):(Instr.index 48 (.agg #[a,b,c,d,e]) (.int .i64 2)).run Tryz.prog w=.ok c w:=kr0
@[local go_sem] theorem aB0 (a b c d e:Value) (w:World):(Instr.index 48 (.agg #[a,b,c,d,e]) (.int .i64 3)).run Tryz.prog w=.ok d w:=kr0
@[local go_sem] theorem aB4 (a b c d e:Value) (w:World):(Instr.index 48 (.agg #[a,b,c,d,e]) (.int .i64 4)).run Tryz.prog w=.ok e w:=kr0
theorem a5a(s0 s1 s2 s3 s4:Int)(vr vg vb va vt vc vi:Int)(vl:Bool)(vn:Int)(hB:SyB ⟨s0,s1,s2,s3,s4,⟨vr,vg,vb,va,vt,vc,vi,vl,vn⟩⟩)(w:World):
  Calls Tryz.prog 92 #[.agg #[.int .u8 s0,.int .u8 s1,.int .u8 s2,.int .u8 s3,.int .u8 s4,.int .u8 vr,.int .u8 vg,.int .u8 vb,.int .u8 va,.int .i64 vt,.int .u8 vc,.int .i64 vi,.bool vl,.int .i64 vn]] w fun e w'=>e=.returned (.int .i64 (Q7 ⟨s0,s1,s2,s3,s4,⟨vr,vg,vb,va,vt,vc,vi,vl,vn⟩⟩))∧Below w.heap.size w w':=by
 obtain⟨b0,b1,b2,b3,b4,_⟩:=hB;simp only at b0 b1 b2 b3 b4;cases r0:N7 s0
 ·rw[show Q7 ⟨s0,s1,s2,s3,s4,⟨vr,vg,vb,va,vt,vc,vi,vl,vn⟩⟩=8 by simp[Q7,E6,N4,r0]];go_enter Tryz.func92,Tryz.ntmps92;go_wp2;refine wp_loop_rounds 6 ?_
  repeat any_goals (rw[rounds_succ];go_wp2_with (go_at_call 144;refine pm0 (Qu _ (by assumption) _) fun nx=>?_))
  go_ret;exact⟨rfl,skB⟩
 cases r1:N7 s1
 ·rw[show Q7 ⟨s0,s1,s2,s3,s4,⟨vr,vg,vb,va,vt,vc,vi,vl,vn⟩⟩=8 by simp[Q7,E6,N4,r1]];go_enter Tryz.func92,Tryz.ntmps92;go_wp2;refine wp_loop_rounds 6 ?_
  repeat any_goals (rw[rounds_succ];go_wp2_with (go_at_call 144;refine pm0 (Qu _ (by assumption) _) fun nx=>?_))
  go_ret;exact⟨rfl,skB⟩
 cases r2:N7 s2
 ·rw[show Q7 ⟨s0,s1,s2,s3,s4,⟨vr,vg,vb,va,vt,vc,vi,vl,vn⟩⟩=8 by simp[Q7,E6,N4,r2]];go_enter Tryz.func92,Tryz.ntmps92;go_wp2;refine wp_loop_rounds 6 ?_
  repeat any_goals (rw[rounds_succ];go_wp2_with (go_at_call 144;refine pm0 (Qu _ (by assumption) _) fun nx=>?_))
  go_ret;exact⟨rfl,skB⟩
 cases r3:N7 s3
 ·rw[show Q7 ⟨s0,s1,s2,s3,s4,⟨vr,vg,vb,va,vt,vc,vi,vl,vn⟩⟩=8 by simp[Q7,E6,N4,r3]];go_enter Tryz.func92,Tryz.ntmps92;go_wp2;refine wp_loop_rounds 6 ?_
  repeat any_goals (rw[rounds_succ];go_wp2_with (go_at_call 144;refine pm0 (Qu _ (by assumption) _) fun nx=>?_))
  go_ret;exact⟨rfl,skB⟩
 cases r4:N7 s4
 ·rw[show Q7 ⟨s0,s1,s2,s3,s4,⟨vr,vg,vb,va,vt,vc,vi,vl,vn⟩⟩=8 by simp[Q7,E6,N4,r4]];go_enter Tryz.func92,Tryz.ntmps92;go_wp2;refine wp_loop_rounds 6 ?_
  repeat any_goals (rw[rounds_succ];go_wp2_with (go_at_call 144;refine pm0 (Qu _ (by assumption) _) fun nx=>?_))
  go_ret;exact⟨rfl,skB⟩
 cases hL:QR ⟨vr,vg,vb,va,vt,vc,vi,vl,vn⟩
 ·have e1:af3 ⟨vr,vg,vb,va,vt,vc,vi,vl,vn⟩=8:=by rw[af3,hL];rfl
  rw[show Q7 ⟨s0,s1,s2,s3,s4,⟨vr,vg,vb,va,vt,vc,vi,vl,vn⟩⟩=8 by simp[Q7,E6,hL]];clear hL;go_enter Tryz.func92,Tryz.ntmps92;go_wp2;refine wp_loop_rounds 6 ?_
  repeat any_goals (rw[rounds_succ];go_wp2_with (go_at_call 144;refine pm0 (Qu _ (by assumption) _) fun nx=>?_))
  refine qg kr0 kr0 ?_
  (repeat(go_big_quiet_step ((first|(go_at_call 145;exact C8 (ae7 _ _ _ _ _ _ _ _ _ _))|(go_at_call 146;exact C8 (ae3 _ _ _ _ _ _ _ _ _ _ _ _ _ _ _))))))
  refine wpQuiet_nil ?_;rintro _ ⟨x2,rfl⟩;go_wp2;go_ret;exact⟨rfl,skB⟩
 have e1:af3 ⟨vr,vg,vb,va,vt,vc,vi,vl,vn⟩=0:=by rw[af3,hL];rfl
 obtain⟨J,hJ⟩:∃J,ah6 ⟨s0,s1,s2,s3,s4,⟨vr,vg,vb,va,vt,vc,vi,vl,vn⟩⟩=J:=⟨_,rfl⟩;have e3:Q7 ⟨s0,s1,s2,s3,s4,⟨vr,vg,vb,va,vt,vc,vi,vl,vn⟩⟩=if eqL J ⟨vr,vg,vb,va,vt,vc,vi,vl,vn⟩then 0 else 8:=by simp[Q7,E6,N4,r0,r1,r2,r3,r4,hL,hJ]
 rw[e3];clear e3 hL;cases hq:eqL J ⟨vr,vg,vb,va,vt,vc,vi,vl,vn⟩
 ·rcases a8v hq with h1|⟨h1,h2|⟨h2,h3|⟨h3,h4|⟨h4,h5|⟨h5,h6⟩⟩⟩⟩⟩
  all_goals
   clear hq;simp only at h1
   try simp only at h2
   try simp only at h3
   try simp only at h4
   try simp only at h5
   try simp only at h6
   go_enter Tryz.func92,Tryz.ntmps92;go_wp2;refine wp_loop_rounds 6 ?_
   repeat any_goals (rw[rounds_succ];go_wp2_with (go_at_call 144;refine pm0 (Qu _ (by assumption) _) fun nx=>?_))
   refine qg kr0 kr0 ?_
   (repeat(go_big_quiet_step ((first|(go_at_call 145;exact C8 (ae7 _ _ _ _ _ _ _ _ _ _))|(go_at_call 146;exact C8 (ae3 _ _ _ _ _ _ _ _ _ _ _ _ _ _ _))))))
   refine wpQuiet_nil ?_;rintro _ ⟨x2,rfl⟩;go_wp2;go_ret;exact⟨rfl,skB⟩
 ·obtain rfl:=a7C.1 hq;clear hq;go_enter Tryz.func92,Tryz.ntmps92;go_wp2;refine wp_loop_rounds 6 ?_
  repeat any_goals (rw[rounds_succ];go_wp2_with (go_at_call 144;refine pm0 (Qu _ (by assumption) _) fun nx=>?_))
  refine qg kr0 kr0 ?_
  (repeat(go_big_quiet_step ((first|(go_at_call 145;exact C8 (ae7 _ _ _ _ _ _ _ _ _ _))|(go_at_call 146;exact C8 (ae3 _ _ _ _ _ _ _ _ _ _ _ _ _ _ _))))))
  refine wpQuiet_nil ?_;rintro _ ⟨x2,rfl⟩;go_wp2;go_ret;exact⟨rfl,skB⟩
end
section
def ab1 (nt:Nat) (y:Sy):Bool:=E6 y&&(decide (y.s1=0)||decide (y.l.tx<(nt:Int)))
def nmb (nm:Nat) (n:Nd):Bool:=
 if n.f.kind=1∨n.f.kind=3 then true else if n.f.kind=2 then ar4 n.f.m else if n.f.kind=4 then Q8 n.f.cen 4096&&G8 n.far else if n.f.kind=5 then decide (0≤n.f.mesh∧n.f.mesh<nm)else false
theorem ac8(l:List Int):W5 l []=decide (l.length=0):=by
 cases l with
 |nil=>rfl
 |cons a l=>exact(L2 (by simp)).trans (by simp)
theorem a2b{nm nt:Nat}{n:Nd}(hs1:0≤n.f.sty.s1):ze nm nt n=(ab1 nt n.f.sty&&(z7 n (ao4 n)&&nmb nm n)):=by
 obtain⟨⟨k,m,o,c,e,y⟩,f⟩:=n;simp only at hs1;have hty:(!(decide (0<y.s1)&&decide ((nt:Int)≤y.l.tx)))=(decide (y.s1=0)||decide (y.l.tx<(nt:Int))):=by
  by_cases h1:y.s1=0<;>by_cases h2:y.l.tx<(nt:Int)<;>simp[h1,h2]<;>omega
 have hI:W5 f f=true:=G2 aw0 _;unfold ze ab1 z7 ao4 Zm nmb;simp only[hty,a0r,decide_true,Bool.true_and,Bool.and_true];generalize (decide (y.s1=0)||decide (y.l.tx<(nt:Int)))=b2;generalize E6 y=b1;have key:∀X,((eqv c zl&&decide (f.length=0))&&(X&&(Q8 c 4096&&G8 f)))=((eqv c zl&&decide (f.length=0))&&X):=by
  intro X;cases hc:eqv c zl
  ·rfl
  by_cases hf:f.length=0
  ·obtain rfl:=ac3 hc;obtain rfl:=List.eq_nil_of_length_eq_zero hf;rw[show Q8 zl 4096=true from rfl,show G8 []=true from rfl,Bool.and_true,Bool.and_true]
  ·rw[decide_eq_false hf];rfl
 have k1:=key (decide (e=0));clear key;by_cases h1:k=1
 ·subst h1;simp only[Int.reduceEq,reduceIte,ac8];generalize (Q8 c 4096&&G8 f)=A at*;generalize ap7 m L6=q1 at*;generalize decide (o=0)=q2 at*;generalize eqv c zl=q3 at*;generalize decide (f.length=0)=q4 at*;generalize decide (e=0)=q5 at*
  revert k1
  cases b1<;>cases b2<;>cases q1<;>cases q2<;>cases q3<;>cases q4<;>cases q5<;>cases A<;>simp
 by_cases h2:k=2
 ·subst h2;simp only[Int.reduceEq,reduceIte,ac8,a0w];generalize (Q8 c 4096&&G8 f)=A at*;generalize ar4 m=q1 at*;generalize decide (o=0)=q2 at*;generalize eqv c zl=q3 at*;generalize decide (f.length=0)=q4 at*;generalize decide (e=0)=q5 at*
  revert k1
  cases b1<;>cases b2<;>cases q1<;>cases q2<;>cases q3<;>cases q4<;>cases q5<;>cases A<;>simp
 by_cases h3:k=3
 ·subst h3;simp only[Int.reduceEq,reduceIte,ac8];generalize (Q8 c 4096&&G8 f)=A at*;generalize ap7 m L6=q1 at*;generalize eqv c zl=q3 at*;generalize decide (f.length=0)=q4 at*;generalize decide (e=0)=q5 at*
  revert k1
  cases b1<;>cases b2<;>cases q1<;>cases q3<;>cases q4<;>cases q5<;>cases A<;>simp
 by_cases h4:k=4
 ·subst h4;simp only[Int.reduceEq,reduceIte,az8,hI];generalize Q8 c 4096=q3 at*;generalize G8 f=q4 at*;generalize ap7 m L6=q1 at*;generalize decide (o=0)=q2 at*;generalize decide (e=0)=q5 at*;clear k1;cases b1<;>cases b2<;>cases q1<;>cases q2<;>cases q3<;>cases q4<;>cases q5<;>simp
 by_cases h5:k=5
 ·subst h5;simp only[Int.reduceEq,reduceIte,ac8];generalize decide (0≤e∧e<(nm:Int))=A at*;generalize ap7 m L6=q1 at*;generalize decide (o=0)=q2 at*;generalize eqv c zl=q3 at*;generalize decide (f.length=0)=q4 at*;clear k1;cases b1<;>cases b2<;>cases q1<;>cases q2<;>cases q3<;>cases q4<;>cases A<;>simp
 simp only[h1,h2,h3,h4,h5,false_or,if_false,Bool.and_false];rw[show decide (1≤k∧k≤5)=false from decide_eq_false om0,Bool.false_and]
theorem az3{s0 s1 s2 s3 s4 vr vg vb va vt vc vi:Int}{vl:Bool}{vn:Int}{b:Bool}{w:World}(h:E6 ⟨s0,s1,s2,s3,s4,⟨vr,vg,vb,va,vt,vc,vi,vl,vn⟩⟩=b)(hB:SyB ⟨s0,s1,s2,s3,s4,⟨vr,vg,vb,va,vt,vc,vi,vl,vn⟩⟩):
  Calls Tryz.prog 92 #[.agg #[.int .u8 s0,.int .u8 s1,.int .u8 s2,.int .u8 s3,.int .u8 s4,.int .u8 vr,.int .u8 vg,.int .u8 vb,.int .u8 va,.int .i64 vt,.int .u8 vc,.int .i64 vi,.bool vl,.int .i64 vn]] w fun e w'=>e=.returned (.int .i64 (if b then 0 else 8))∧Below w.heap.size w w':=by
 have h2:=a5a s0 s1 s2 s3 s4 vr vg vb va vt vc vi vl vn hB w;unfold Q7 at h2;rw[h]at h2;exact h2
theorem a0W(ga ka na ma ta:Option Addr)(gn gc kn kc nn nc mn mc tn tc:Nat)(r0 r1:Int)(y:Sy)(hB:SyB y)(w:World):Calls Tryz.prog 47 #[.agg #[.slice ga gn gc,.slice ka kn kc,.slice na nn nc,.slice ma mn mc,.slice ta tn tc,.int .i64 r0,.int .i64 r1],.agg (syL y).toArray] w fun e w'=>e=.returned (.bool (ab1 tn y))∧∃y,w'=plus w y:=by
 obtain⟨s0,s1,s2,s3,s4,⟨vr,vg,vb,va,vt,vc,vi,vl,vn⟩⟩:=y;simp only[syL];cases hs:E6 ⟨s0,s1,s2,s3,s4,⟨vr,vg,vb,va,vt,vc,vi,vl,vn⟩⟩
 ·rw[show ab1 tn ⟨s0,s1,s2,s3,s4,⟨vr,vg,vb,va,vt,vc,vi,vl,vn⟩⟩=false by rw[ab1,hs];rfl];go_enter Tryz.func47,Tryz.ntmps47;go_wp2_with (go_at_call 92;refine pm0 (az3 hs hB) fun nx=>?_);go_ret;exact⟨rfl,sk9⟩
 have hr:ab1 tn ⟨s0,s1,s2,s3,s4,⟨vr,vg,vb,va,vt,vc,vi,vl,vn⟩⟩=(decide (s1=0)||decide (vt<(tn:Int))):=by rw[ab1,hs];rfl
 rw[hr];by_cases h0:s1=0
 ·subst h0;go_enter Tryz.func47,Tryz.ntmps47;go_wp2_with (go_at_call 92;refine pm0 (az3 hs hB) fun nx=>?_);go_ret;exact⟨rfl,sk9⟩
 have d0:(s1==0)=false:=by rw[beq_eq_false_iff_ne];exact h0
 rw[decide_eq_false h0,Bool.false_or];by_cases h1:vt<(tn:Int)
 ·have e1:=decide_eq_true h1;rw[e1];go_enter Tryz.func47,Tryz.ntmps47;go_wp2_with (go_at_call 92;refine pm0 (az3 hs hB) fun nx=>?_);go_ret;exact⟨rfl,sk9⟩
 ·have e1:=decide_eq_false h1;rw[e1];go_enter Tryz.func47,Tryz.ntmps47;go_wp2_with (go_at_call 92;refine pm0 (az3 hs hB) fun nx=>?_);go_ret;exact⟨rfl,sk9⟩
theorem a7h(m:Mt){b:Bool}(h:ar4 m=b)(w:World):Calls Tryz.prog 94 #[.agg (mtL m).toArray] w fun e w'=>e=.returned (.int .i64 (if b then 0 else 20))∧Below w.heap.size w w':=by
 subst h;obtain⟨⟨⟨a,b,c⟩,⟨d,o,f⟩,⟨g,u,i⟩⟩,⟨p,q,r⟩⟩:=m;exact aq1 a b c d o f g u i p q r w
theorem a4w(v:V3){b:Bool}(h:Q8 v 4096=b)(w:World):Calls Tryz.prog 95 #[.agg (v3L v).toArray] w fun e w'=>e=.returned (.int .i64 (if b then 0 else 20))∧Below w.heap.size w w':=by
 subst h;obtain⟨a,b,c⟩:=v;exact Ze a b c w
theorem a40{ao:Option Addr}{n cap:Nat}{l:List Int}{w:World}{b:Bool}(h:G8 l=b)(hl:Lay fI w ao n l)(hn:n≤9223372036854775807):
  Calls Tryz.prog 96 #[.slice ao n cap] w fun e w'=>e=.returned (.bool b)∧∃y,w'=plus w y:=h▸a4Q ao n cap l w hl hn
theorem a4j(ga ka na ma ta:Option Addr)(gn gc kn kc nn nc mn mc tn tc:Nat)(r0 r1:Int)(h:NH)(n:Nd)(w:World)(hN:G0 w h n):Calls Tryz.prog 50 #[.agg #[.slice ga gn gc,.slice ka kn kc,.slice na nn nc,.slice ma mn mc,.slice ta tn tc,.int .i64 r0,.int .i64 r1],vN h] w fun e w'=>e=.returned (.bool (nmb mn n))∧∃y,w'=plus w y:=by
 show Calls Tryz.prog 50 #[.agg #[.slice ga gn gc,.slice ka kn kc,.slice na nn nc,.slice ma mn mc,.slice ta tn tc,.int .i64 r0,.int .i64 r1],.agg (fN h).toArray] w fun e w'=>e=.returned (.bool (nmb mn n))∧∃y,w'=plus w y
 have hf:=hN.f;have hmt:=ad9 h;have hv3:=ae8 h;have hkind:=ZL h;have hfar:=ah1 h;have hme:(fN h)[18]?=some (.int .i64 h.f.mesh):=rfl;unfold nmb;rw[←hf];obtain⟨kd,hk⟩:∃k,h.f.kind=k:=⟨_,rfl⟩;rw[hk]at hkind ⊢;obtain⟨cs,hcs⟩:∃cs,fN h=cs:=⟨_,rfl⟩;rw[hcs]at hmt hv3 hkind hfar hme ⊢;have hc:cs.length=33:=by rw[←hcs];rfl
 obtain⟨b,hb⟩:∃b,w.heap.size=b:=⟨_,rfl⟩;clear hcs hf hk;obtain⟨v,hv⟩:∃v,(if kd=1∨kd=3 then true else if kd=2 then ar4 h.f.m else if kd=4 then Q8 h.f.cen 4096&&G8 n.far else if kd=5 then decide (0≤h.f.mesh∧h.f.mesh<(mn:Int))else false)=v:=⟨_,rfl⟩;rw[hv]
 replace hv:=qw.mk hv
 go_enter Tryz.func50,Tryz.ntmps50;go_upto_region 1 with fail;refine qz (fun w'=>(∃y,w'=plus w y)∧w'.heap[b]?=some (.cells #[.slice ga gn gc,.slice ka kn kc,.slice na nn nc,.slice ma mn mc,.slice ta tn tc,.int .i64 r0,.int .i64 r1] 34)∧w'.heap[b+1]?=some (.cells cs.toArray 56)) ⟨sk9,hb▸qm (qc _ _),by rw[←hb,←j8 w];exact qc _ _⟩ ?_
 try simp only[hb]
 rintro w1 ⟨x1,k0,k1⟩;have p0:=k9 k1 hkind;have p17:=k9 k1 hfar;have p18:=k9 k1 hme;have r2:=i6 (i:=3) k0 rfl;have l1:=qi k1;have hl1:=hN.lay.ex x1;have hle:=hN.le;by_cases h1:kd=1
 ·subst h1;go_wp2_with fail;go_ret;exact⟨by rw[←hv.it];simp,i9 x1 sk9⟩
 have d1:(kd==1)=false:=by rw[beq_eq_false_iff_ne];exact h1
 by_cases h3:kd=3
 ·subst h3;go_wp2_with fail;go_ret;exact⟨by rw[←hv.it];simp,i9 x1 sk9⟩
 have d3:(kd==3)=false:=by rw[beq_eq_false_iff_ne];exact h3
 by_cases h2:kd=2
 ·subst h2;cases hm:ar4 h.f.m
  ·go_wp2_with (first|(refine qY rfl 45 _ rfl (b+1) 1 rfl (mtL h.f.m) _ (fun j v hv=>k9 k1 (hmt j v hv)) Tryz.underlying45 rfl kr0 ?_)|(go_at_call 94;refine pm0 (a7h h.f.m hm _) fun nx=>?_));go_ret;exact⟨by rw[←hv.it];simp[hm],i9 x1 sk9⟩
  ·go_wp2_with (first|(refine qY rfl 45 _ rfl (b+1) 1 rfl (mtL h.f.m) _ (fun j v hv=>k9 k1 (hmt j v hv)) Tryz.underlying45 rfl kr0 ?_)|(go_at_call 94;refine pm0 (a7h h.f.m hm _) fun nx=>?_));go_ret;exact⟨by rw[←hv.it];simp[hm],i9 x1 sk9⟩
 have d2:(kd==2)=false:=by rw[beq_eq_false_iff_ne];exact h2
 by_cases h4:kd=4
 ·subst h4;cases hm:Q8 h.f.cen 4096
  ·go_wp2_with (first|(refine qY rfl 43 _ rfl (b+1) 14 rfl (v3L h.f.cen) _ (fun j v hv=>k9 k1 (hv3 j v hv)) Tryz.underlying43 rfl kr0 ?_)|(go_at_call 95;refine pm0 (a4w h.f.cen hm _) fun nx=>?_)|(go_at_call 96;refine pq0 (a40 hd (hl1.ex sk9) hle) fun nx=>?_));go_ret;exact⟨by rw[←hv.it];simp[hm],i9 x1 sk9⟩
  ·cases hd:G8 n.far
   ·go_wp2_with (first|(refine qY rfl 43 _ rfl (b+1) 14 rfl (v3L h.f.cen) _ (fun j v hv=>k9 k1 (hv3 j v hv)) Tryz.underlying43 rfl kr0 ?_)|(go_at_call 95;refine pm0 (a4w h.f.cen hm _) fun nx=>?_)|(go_at_call 96;refine pq0 (a40 hd (hl1.ex sk9) hle) fun nx=>?_));go_ret;exact⟨by rw[←hv.it];simp[hm,hd],i9 x1 sk9⟩
   ·go_wp2_with (first|(refine qY rfl 43 _ rfl (b+1) 14 rfl (v3L h.f.cen) _ (fun j v hv=>k9 k1 (hv3 j v hv)) Tryz.underlying43 rfl kr0 ?_)|(go_at_call 95;refine pm0 (a4w h.f.cen hm _) fun nx=>?_)|(go_at_call 96;refine pq0 (a40 hd (hl1.ex sk9) hle) fun nx=>?_));go_ret;exact⟨by rw[←hv.it];simp[hm,hd],i9 x1 sk9⟩
 have d4:(kd==4)=false:=by rw[beq_eq_false_iff_ne];exact h4
 by_cases h5:kd=5
 ·subst h5;by_cases m0:0≤h.f.mesh
  ·have e0:=decide_eq_true m0;by_cases m1:h.f.mesh<(mn:Int)
   ·have e1:=decide_eq_true m1;go_wp2_with fail;go_ret;exact⟨by rw[←hv.it];simp[m0,m1],i9 x1 sk9⟩
   ·have e1:=decide_eq_false m1;go_wp2_with fail;go_ret;exact⟨by rw[←hv.it];simp;omega,i9 x1 sk9⟩
  ·have m0':h.f.mesh<0:=om0;have e0:=decide_eq_false m0;go_wp2_with fail;go_ret;exact⟨by rw[←hv.it];simp;omega,i9 x1 sk9⟩
 have d5:(kd==5)=false:=by rw[beq_eq_false_iff_ne];exact h5
 go_wp2_with fail;go_ret;exact⟨by rw[←hv.it];simp[h1,h2,h3,h4,h5],i9 x1 sk9⟩
end
section
theorem ab4{ga ka na ma ta:Option Addr}{gn gc kn kc nn nc mn mc tn tc:Nat}{r0 r1:Int}{y:Sy}(hB:SyB y){w:World}{b:Bool}(h:ab1 tn y=b):Calls Tryz.prog 47 #[.agg #[.slice ga gn gc,.slice ka kn kc,.slice na nn nc,.slice ma mn mc,.slice ta tn tc,.int .i64 r0,.int .i64 r1],.agg (syL y).toArray] w fun e w'=>e=.returned (.bool b)∧∃y,w'=plus w y:=h▸a0W ga ka na ma ta gn gc kn kc nn nc mn mc tn tc r0 r1 y hB w
theorem a25{ga ka na ma ta:Option Addr}{gn gc kn kc nn nc mn mc tn tc:Nat}{r0 r1:Int}{h:NH}{n:Nd}{w:World}(hN:G0 w h n){b:Bool}(hb:nmb mn n=b):Calls Tryz.prog 50 #[.agg #[.slice ga gn gc,.slice ka kn kc,.slice na nn nc,.slice ma mn mc,.slice ta tn tc,.int .i64 r0,.int .i64 r1],vN h] w fun e w'=>e=.returned (.bool b)∧∃y,w'=plus w y:=hb▸a4j ga ka na ma ta gn gc kn kc nn nc mn mc tn tc r0 r1 h n w hN
theorem Z8(ga ka na ma ta:Option Addr)(gn gc kn kc nn nc mn mc tn tc:Nat)(r0 r1:Int)(h:NH)(n:Nd)(w:World)(hN:G0 w h n)(s1:h.n≤10000):Calls Tryz.prog 17 #[.agg #[.slice ga gn gc,.slice ka kn kc,.slice na nn nc,.slice ma mn mc,.slice ta tn tc,.int .i64 r0,.int .i64 r1],vN h] w fun e w'=>e=.returned (.int .i64 (if ze mn tn n then 0 else 8))∧∃y,w'=plus w y:=by
 show Calls Tryz.prog 17 #[.agg #[.slice ga gn gc,.slice ka kn kc,.slice na nn nc,.slice ma mn mc,.slice ta tn tc,.int .i64 r0,.int .i64 r1],.agg (fN h).toArray] w fun e w'=>e=.returned (.int .i64 (if ze mn tn n then 0 else 8))∧∃y,w'=plus w y
 have hN2:=a3I hN;have s2:(H8 h).n≤10000:=by unfold H8;split<;>simp[s1]
 have hB:SyB h.f.sty:=by rw[hN.f];exact hN.b.sty
 have hr:=a2b (nm:=mn) (nt:=tn) (n:=n) (by rw[←hN.f];exact hB.s1.1);have hsty:=Zv h;rw[←hN.f]at hr;obtain⟨b1,hb1⟩:∃b,ab1 tn h.f.sty=b:=⟨_,rfl⟩;obtain⟨b2,hb2⟩:∃b,z7 n (ao4 n)=b:=⟨_,rfl⟩;obtain⟨b3,hb3⟩:∃b,nmb mn n=b:=⟨_,rfl⟩;rw[hb1,hb2,hb3]at hr;rw[hr];clear hr;obtain⟨b,hb⟩:∃b,w.heap.size=b:=⟨_,rfl⟩;go_enter Tryz.func17,Tryz.ntmps17;go_upto_region 1 with fail;refine qz (fun w'=>(∃y,w'=plus w y)∧w'.heap[b]?=some (.cells #[.slice ga gn gc,.slice ka kn kc,.slice na nn nc,.slice ma mn mc,.slice ta tn tc,.int .i64 r0,.int .i64 r1] 34)∧w'.heap[b+1]?=some (.cells (fN h).toArray 56)) ⟨sk9,hb▸qm (qc _ _),by rw[←hb,←j8 w];exact qc _ _⟩ ?_
 try simp only[hb]
 rintro w1 ⟨x1,k0,k1⟩;have c0:=i6 (i:=0) k0 rfl;have c1:=i6 (i:=1) k0 rfl;have c2:=i6 (i:=2) k0 rfl;have c3:=i6 (i:=3) k0 rfl;have c4:=i6 (i:=4) k0 rfl;have c5:=i6 (i:=5) k0 rfl;have c6:=i6 (i:=6) k0 rfl;have hNa:=hN.ex x1;have hNb:=hN2.ex x1
 replace hsty:=qw.mk hsty
 have l1:=qi k1;cases b1
 ·refine qg kr0 kr0 ?_
  (repeat(first|go_big_quiet_skip|(refine qL 54 _ rfl (b+1) 19 rfl (syL h.f.sty) _ (fun w' hw j v hj=>qf hw (k9 k1 (hsty.it j v hj))) Tryz.underlying54 rfl kr0 kr0 ?_;simp only[Act.put,List.setIfInBounds_toArray,List.set_cons_succ,List.set_cons_zero])|(refine qL 56 _ rfl (b+1) 0 rfl (fN h) _ (fun w' hw j v hj=>qf hw (by rw[Nat.zero_add];exact k9 k1 hj)) Tryz.underlying56 rfl kr0 kr0 ?_;simp only[Act.put,List.setIfInBounds_toArray,List.set_cons_succ,List.set_cons_zero])|go_big_quiet_step (first|(go_at_call 47;exact C9 (ab4 hB hb1))|(go_at_call 49;exact C9 (X3 h _))|(go_at_call 48;exact C9 (T1 (hNa.ex sk9) (hNb.ex sk9) s1 s2 hb2))|(go_at_call 50;exact C9 (a25 (hNa.ex sk9) hb3)))))
  refine wpQuiet_nil ?_;rintro _ ⟨x2,rfl⟩;go_wp2;go_ret;exact⟨rfl,i9 x1 sk9⟩
 cases b2
 ·refine qg kr0 kr0 ?_
  (repeat(first|go_big_quiet_skip|(refine qL 54 _ rfl (b+1) 19 rfl (syL h.f.sty) _ (fun w' hw j v hj=>qf hw (k9 k1 (hsty.it j v hj))) Tryz.underlying54 rfl kr0 kr0 ?_;simp only[Act.put,List.setIfInBounds_toArray,List.set_cons_succ,List.set_cons_zero])|(refine qL 56 _ rfl (b+1) 0 rfl (fN h) _ (fun w' hw j v hj=>qf hw (by rw[Nat.zero_add];exact k9 k1 hj)) Tryz.underlying56 rfl kr0 kr0 ?_;simp only[Act.put,List.setIfInBounds_toArray,List.set_cons_succ,List.set_cons_zero])|go_big_quiet_step (first|(go_at_call 47;exact C9 (ab4 hB hb1))|(go_at_call 49;exact C9 (X3 h _))|(go_at_call 48;exact C9 (T1 (hNa.ex sk9) (hNb.ex sk9) s1 s2 hb2))|(go_at_call 50;exact C9 (a25 (hNa.ex sk9) hb3)))))
  refine wpQuiet_nil ?_;rintro _ ⟨x2,rfl⟩;go_wp2;go_ret;exact⟨rfl,i9 x1 sk9⟩
 cases b3
 ·refine qg kr0 kr0 ?_
  (repeat(first|go_big_quiet_skip|(refine qL 54 _ rfl (b+1) 19 rfl (syL h.f.sty) _ (fun w' hw j v hj=>qf hw (k9 k1 (hsty.it j v hj))) Tryz.underlying54 rfl kr0 kr0 ?_;simp only[Act.put,List.setIfInBounds_toArray,List.set_cons_succ,List.set_cons_zero])|(refine qL 56 _ rfl (b+1) 0 rfl (fN h) _ (fun w' hw j v hj=>qf hw (by rw[Nat.zero_add];exact k9 k1 hj)) Tryz.underlying56 rfl kr0 kr0 ?_;simp only[Act.put,List.setIfInBounds_toArray,List.set_cons_succ,List.set_cons_zero])|go_big_quiet_step (first|(go_at_call 47;exact C9 (ab4 hB hb1))|(go_at_call 49;exact C9 (X3 h _))|(go_at_call 48;exact C9 (T1 (hNa.ex sk9) (hNb.ex sk9) s1 s2 hb2))|(go_at_call 50;exact C9 (a25 (hNa.ex sk9) hb3)))))
  refine wpQuiet_nil ?_;rintro _ ⟨x2,rfl⟩;go_wp2;go_ret;exact⟨rfl,i9 x1 sk9⟩
 ·refine qg kr0 kr0 ?_
  (repeat(first|go_big_quiet_skip|(refine qL 54 _ rfl (b+1) 19 rfl (syL h.f.sty) _ (fun w' hw j v hj=>qf hw (k9 k1 (hsty.it j v hj))) Tryz.underlying54 rfl kr0 kr0 ?_;simp only[Act.put,List.setIfInBounds_toArray,List.set_cons_succ,List.set_cons_zero])|(refine qL 56 _ rfl (b+1) 0 rfl (fN h) _ (fun w' hw j v hj=>qf hw (by rw[Nat.zero_add];exact k9 k1 hj)) Tryz.underlying56 rfl kr0 kr0 ?_;simp only[Act.put,List.setIfInBounds_toArray,List.set_cons_succ,List.set_cons_zero])|go_big_quiet_step (first|(go_at_call 47;exact C9 (ab4 hB hb1))|(go_at_call 49;exact C9 (X3 h _))|(go_at_call 48;exact C9 (T1 (hNa.ex sk9) (hNb.ex sk9) s1 s2 hb2))|(go_at_call 50;exact C9 (a25 (hNa.ex sk9) hb3)))))
  refine wpQuiet_nil ?_;rintro _ ⟨x2,rfl⟩;go_wp2;go_ret;exact⟨rfl,i9 x1 sk9⟩
theorem ap0{ga ka na ma ta:Option Addr}{gn gc kn kc nn nc mn mc tn tc:Nat}{r0 r1:Int}{h:NH}{n:Nd}{w:World}(hN:G0 w h n)(s1:h.n≤10000){b:Bool}(hb:ze mn tn n=b):Calls Tryz.prog 17 #[.agg #[.slice ga gn gc,.slice ka kn kc,.slice na nn nc,.slice ma mn mc,.slice ta tn tc,.int .i64 r0,.int .i64 r1],vN h] w fun e w'=>e=.returned (.int .i64 (if b then 0 else 8))∧∃y,w'=plus w y:=hb▸Z8 ga ka na ma ta gn gc kn kc nn nc mn mc tn tc r0 r1 h n w hN s1
end
section
attribute [local go_sem] eqarr_40 nearr_40 larr_40
attribute [local go_sem] eqarr_137 nearr_137 larr_137
attribute [local go_sem] isnil_47
attribute [local go_sem] isnil_57
attribute [local go_sem] isnil_58
attribute [local go_sem] isnil_59
theorem E5(ao:Option Addr)(n cap:Nat)(l:List V3)(w:World)(hl:Lay fV w ao n l)(hn:n≤10000):
  Calls Tryz.prog 134 #[.slice ao n cap] w fun e w'=>e=.returned (.bool (l.all vOk))∧Below w.heap.size w w':=by
 have hlen:=hl.len;go_enter Tryz.func134,Tryz.ntmps134;go_wp2;go_loopw [7] (fun i wr=>∃k:Nat,k≤n∧i=.int .i64 k∧(∀j,j<k→vOk (nth zl l j)=true)∧∃x,wr=plus w x) (fun i _=>n - (intOf i).toNat)
 case atStart=>exact⟨0,Nat.zero_le _,rfl,fun j hj=>om0,skM⟩
 case round=>
  obtain⟨k,hk,rfl,hs,x,rfl⟩:=hrel;by_cases hkl:k<n
  ·obtain⟨g,off,rfl,hg,hcell⟩:=hl.some om0;obtain⟨c0,c1,c2⟩:=a5H hlen hcell hkl;have ik:(k:Int)<(n:Int):=om0;cases ho:vOk (nth zl l k)
   ·have ho':[(nth zl l k).x,(nth zl l k).y,(nth zl l k).z].all (inR (-1024) 1024)=false:=ho;go_wp2_with (go_at_call 172;refine pm0 (N2 (-1024) 1024 _ 3 _ [(nth zl l k).x,(nth zl l k).y,(nth zl l k).z] _ ⟨rfl,.inr ⟨_,0,rfl,by simp[go_sem];try omega,fun jj u hu=>by match jj,hu with|0,hu=>(simp[fI]at hu;subst hu;simp[go_sem,↓IntWalk.iteOmega])|1,hu=>(simp[fI]at hu;subst hu;simp[go_sem,↓IntWalk.iteOmega])|2,hu=>(simp[fI]at hu;subst hu;simp[go_sem,↓IntWalk.iteOmega])|jj+3,hu=>simp[fI]at hu⟩⟩ dc0) fun nx=>?_;rw[ho']);go_ret;exact⟨by rw[C1 (d:=zl) (k:=k) om0 ho];rfl,skB⟩
   ·have ho':[(nth zl l k).x,(nth zl l k).y,(nth zl l k).z].all (inR (-1024) 1024)=true:=ho;go_wp2_with (go_at_call 172;refine pm0 (N2 (-1024) 1024 _ 3 _ [(nth zl l k).x,(nth zl l k).y,(nth zl l k).z] _ ⟨rfl,.inr ⟨_,0,rfl,by simp[go_sem];try omega,fun jj u hu=>by match jj,hu with|0,hu=>(simp[fI]at hu;subst hu;simp[go_sem,↓IntWalk.iteOmega])|1,hu=>(simp[fI]at hu;subst hu;simp[go_sem,↓IntWalk.iteOmega])|2,hu=>(simp[fI]at hu;subst hu;simp[go_sem,↓IntWalk.iteOmega])|jj+3,hu=>simp[fI]at hu⟩⟩ dc0) fun nx=>?_;rw[ho']);go_roundw
    case rel=>exact⟨k+1,om0,by go_num,C4 hs ho,skM⟩
    case measure=>simp[intOf];omega
  ·have ik:¬(k:Int)<(n:Int):=om0;go_wp2;go_ret;exact⟨by rw[K5 (d:=zl) (fun j hj=>hs j om0)];rfl,skB⟩
theorem G6(ao:Option Addr)(n cap:Nat)(l:List (Int × Int))(w:World)(hl:Lay f2 w ao n l)(hn:n≤10000):
  Calls Tryz.prog 135 #[.slice ao n cap] w fun e w'=>e=.returned (.bool (l.all uOk))∧Below w.heap.size w w':=by
 have hlen:=hl.len;go_enter Tryz.func135,Tryz.ntmps135;go_wp2;go_loopw [7] (fun i wr=>∃k:Nat,k≤n∧i=.int .i64 k∧(∀j,j<k→uOk (nth (0,0) l j)=true)∧∃x,wr=plus w x) (fun i _=>n - (intOf i).toNat)
 case atStart=>exact⟨0,Nat.zero_le _,rfl,fun j hj=>om0,skM⟩
 case round=>
  obtain⟨k,hk,rfl,hs,x,rfl⟩:=hrel;by_cases hkl:k<n
  ·obtain⟨g,off,rfl,hg,hcell⟩:=hl.some om0;obtain⟨c0,c1⟩:=Y4 hlen hcell hkl;have ik:(k:Int)<(n:Int):=om0;cases ho:uOk (nth (0,0) l k)
   ·have ho':[(nth (0,0) l k).1,(nth (0,0) l k).2].all (inR (0) 255)=false:=ho;go_wp2_with (go_at_call 172;refine pm0 (N2 (0) 255 _ 2 _ [(nth (0,0) l k).1,(nth (0,0) l k).2] _ ⟨rfl,.inr ⟨_,0,rfl,by simp[go_sem];try omega,fun jj u hu=>by match jj,hu with|0,hu=>(simp[fI]at hu;subst hu;simp[go_sem,↓IntWalk.iteOmega])|1,hu=>(simp[fI]at hu;subst hu;simp[go_sem,↓IntWalk.iteOmega])|jj+2,hu=>simp[fI]at hu⟩⟩ dc0) fun nx=>?_;rw[ho']);go_ret;exact⟨by rw[C1 (d:=(0,0)) (k:=k) om0 ho];rfl,skB⟩
   ·have ho':[(nth (0,0) l k).1,(nth (0,0) l k).2].all (inR (0) 255)=true:=ho;go_wp2_with (go_at_call 172;refine pm0 (N2 (0) 255 _ 2 _ [(nth (0,0) l k).1,(nth (0,0) l k).2] _ ⟨rfl,.inr ⟨_,0,rfl,by simp[go_sem];try omega,fun jj u hu=>by match jj,hu with|0,hu=>(simp[fI]at hu;subst hu;simp[go_sem,↓IntWalk.iteOmega])|1,hu=>(simp[fI]at hu;subst hu;simp[go_sem,↓IntWalk.iteOmega])|jj+2,hu=>simp[fI]at hu⟩⟩ dc0) fun nx=>?_;rw[ho']);go_roundw
    case rel=>exact⟨k+1,om0,by go_num,C4 hs ho,skM⟩
    case measure=>simp[intOf];omega
  ·have ik:¬(k:Int)<(n:Int):=om0;go_wp2;go_ret;exact⟨by rw[K5 (d:=(0,0)) (fun j hj=>hs j om0)];rfl,skB⟩
end
end Go.Proofs.YtcekcihijdipoaaGreat
