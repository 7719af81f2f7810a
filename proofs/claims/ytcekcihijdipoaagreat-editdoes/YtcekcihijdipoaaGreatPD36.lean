/- A pack of texts: EdDo4, EdRD1. -/
import Derived.Test.YtcekcihijdipoaaGreatPD35
namespace Go.Proofs.YtcekcihijdipoaaGreat
set_option maxRecDepth 100000
set_option maxHeartbeats 16000000
open Go.RowKit Go.ChangeShapes Go.WideShapes Go.ChangeAt
set_option linter.unusedSimpArgs false
set_option linter.unusedVariables false
attribute [local go_sem] qn qZ A2 zg zz zA t5 qJ zf qO qD t6
section
def a8d (w:World) (S:Sc) (A B C er:Int) (e:Ending) (w':World):Prop:=∃h' x',e=.returned (.tuple #[.agg (qa h').toArray,.agg #[.int .i64 A,.int .i64 B,.int .i64 C],.int .i64 er])∧(∃y,w'=plus w y)∧(er=0→zi w w' h' x' S)∧(er≠0→h'=sh0∧x'=sx0)
theorem zi.grown_ty{T w w':World}{h:SH}{x:SX}{s:Sc}{k:Nat}{cur:Array Value}{e':TypeId}(a:zi T w h x s)(hg:w.grownBy w' (some k))(hb:w.heap[k]?=some (.cells cur e'))(he:e' ∉ F2):zi T w' h x s:=by
 simp only[F2,List.mem_cons,List.not_mem_nil,or_false,not_or]at he;obtain⟨e1,e2,e3,e4,e5,e6,e7,e8,e9,e10,e11⟩:=he;have o:∀{α:Type} {f:α→List Value} {ao:Option Addr} {n cap c:Nat} {l:List α} {e:TypeId},Own e c f T w ao n cap l→e'≠e→Own e c f T w' ao n cap l:=fun h1 h2=>R8 h1 hg hb h2
 exact⟨⟨o a.g.sl e1,o a.g.kh e2,a.g.len,fun k hk=>o (a.g.row k hk) e3⟩,o a.nl e4,a.nlen,fun k hk=>⟨(a.ns k hk).f,(a.ns k hk).b,o (a.ns k hk).far e5⟩,o a.ml e6,a.mlen,fun k hk=>⟨⟨o (a.ms k hk).t.v e7,o (a.ms k hk).t.u e8,o (a.ms k hk).t.p e9,(a.ms k hk).t.len,(a.ms k hk).t.kind,fun j hj=>o ((a.ms k hk).t.ix j hj) e5⟩,(a.ms k hk).b⟩,o a.tl e10,a.tlen,fun k hk=>⟨(a.ts k hk).we,(a.ts k hk).he,o (a.ts k hk).tx e11,(a.ts k hk).ok⟩,a.root,a.pl⟩
def dtS (i:Nat):List Nat:=match i with|0=>[45]|1=>[46]|2=>[47]|3=>[]|_=>[]
def dtΦ (p qs:Nat) (cu:List Value) (A B C:Int) (gq:Option Nat) (i:Nat) (t:Nat→Value) (D:Nat→Bool) (w':World):Prop:=match i with
 |0=>t 45=.pointer (some ⟨p,0,none⟩)
 |1=>t 46=.agg cu.toArray
 |2=>t 47=.agg #[.int .i64 A,.int .i64 B,.int .i64 C]
 |3=>D 3=true∧w'.heap[qs]?=some (.cells cu.toArray 34)
 |_=>True
theorem a6D(p qs:Nat)(cu:List Value)(A B C:Int)(gq:Option Nat):∀i t t' D w D' w',dtΦ p qs cu A B C gq i t D w→(∀s∈dtS i,t' s=t s)→N8 3 [] gq D w D' w'→dtΦ p qs cu A B C gq i t' D' w':=by
 intro i t t' D w D' w' h_ hs' ht
 match i with
 |0=>exact(hs' 45 dc0).trans h_
 |1=>exact(hs' 46 dc0).trans h_
 |2=>exact(hs' 47 dc0).trans h_
 |3=>exact⟨ht.m 3 h_.1,i7 (C7 ht h_.1) h_.2⟩
 |i+4=>trivial
theorem ag4{h:SH}{x:SX}{s:Sc}{e:EH}{w:World}(hA:Zu w h x s)(hm:C2 s=true){kd:Int}{F:FuncId}(hk:e.kind=kd)(hlk:a3A au7 kd=.tuple #[.func (.func F) #[] #[],.bool true])(eg:∀(args:Array Value) (w:World),(callFunc F args).run Tryz.prog w=.ok (.enter F args) w){S:Sc}{A B C er:Int}(her:er≠0→A=0∧B=0∧C=0)
  (HC:∀T w' p h1 x1,(∃y,T=plus w y)→UwI T w' p h1 x1 s→Calls Tryz.prog F #[.pointer (some ⟨p,0,none⟩),.agg (fE e).toArray] w' fun r w''=>ZY T p S A B C er r w''):
  Calls Tryz.prog 9 #[.agg (qa h).toArray,.agg (fE e).toArray] w fun r w'=>a8d w S A B C er r w':=by
 replace hlk:=qw.mk hlk
 have ik:(fE e)[0]?=some (.int .u8 e.kind):=rfl;obtain⟨ce,hce⟩:∃c,fE e=c:=⟨_,rfl⟩;have lce:ce.length=45:=by rw[←hce];rfl
 have ace:ce.toArray.size=45:=by simpa using lce
 obtain⟨cs,hcs⟩:∃c,qa h=c:=⟨_,rfl⟩;have lcs:cs.length=7:=by rw[←hcs];rfl
 have acs:cs.toArray.size=7:=by simpa using lcs
 have CK:a7l 12 w cs (.int .i64 0):=⟨fun w' hw=>hcs▸ZG (hA.ex hw) (by rw[a17,hm];rfl)⟩;rw[hce]at ik ⊢;rw[hcs];obtain⟨q,hq⟩:∃q,w.heap.size=q:=⟨_,rfl⟩;go_enter Tryz.func9,Tryz.ntmps9;go_upto_region 1 with fail;refine qz (fun w'=>(∃y,w'=plus w y)∧w'.heap[q]?=some (.cells cs.toArray 34)∧w'.heap[q+1]?=some (.cells ce.toArray 66)∧w'.heap[q+2]?=some (.cells (qa sh0).toArray 34)∧w'.heap[q+3]?=some (.cells #[.int .i64 0,.int .i64 0,.int .i64 0] 36)) ⟨sk9,hq▸qm (qm (qm (qc _ _))),?b1,?b2,?b3⟩ ?_
 case b1=>rw[←hq,←j8 w (.cells cs.toArray 34)];exact qm (qm (qc _ _))
 case b2=>rw[show q+2=((w.alloc (.cells cs.toArray 34)).alloc (.cells ce.toArray 66)).heap.size by rw[j8,j8,hq]];exact qm (qc _ _)
 case b3=>rw[show q+3=(((w.alloc (.cells cs.toArray 34)).alloc (.cells ce.toArray 66)).alloc (.cells (qa sh0).toArray 34)).heap.size by rw[j8,j8,j8,hq]];exact qc _ _
 try simp only[hq]
 rintro w1 ⟨x1,k0,k1,k2,k3⟩;rw[hk]at ik;have LT:∀w',(∃y,w'=plus w y)→Calls Tryz.prog 15 #[.agg cs.toArray] w' fun e w''=>∃h' x',e=.returned (.agg (qa h').toArray)∧(∃y,w''=plus w' y)∧zi w' w'' h' x' s:=fun w' hw=>hcs▸a35 (hA.ex hw)
 replace LT:=qw.mk LT
 rw[hce]at HC
 replace HC:=qw.mk HC
 replace her:=qw.mk her
 go_upto_region 4 with(first|(refine wpList_load_row rfl 34 (Operand.tmp 2) rfl q kr0 _ _ _ _ (i7 sk9 k0) Tryz.underlying34 rfl (by rw[acs];kernel_rfl) ?_)|(go_at_call 12;refine(CK.it _ (i9 x1 sk9)).mono ?_;rintro r w2 ⟨rfl,x2⟩));refine qz (fun w'=>∃y,w'=plus w1 y) (by first|exact i9 x2 (sk9)|exact sk9) ?_;rintro w2 x2;have k0_:=i7 x2 k0;have k1_:=i7 x2 k1;clear k0 k1;obtain⟨k0,k1⟩:=And.intro k0_ k1_;have ek:=k9 k1 ik;refine zJ 8 ldS (ldΦ (q+1) kd (.func (.func F) #[] #[]) true) kr0 kr0 dc0 (a2D (q+1) kd (.func (.func F) #[] #[]) true) ?steps ?fin
 case steps=>
  refine⟨?_,?_,?_,?_,?_,?_,?_,?_,trivial⟩<;>intro a w' hg hfree hdeep<;>obtain⟨x,rfl⟩:=hg
  ·unfold Oper.wp;simp[go_sem,execOp,Act.eval,↓IntWalk.iteOmega];refine(al8 _).mono ?_;rintro r w2 ⟨b,rfl,hw2,f2⟩;exact⟨_,rfl,hw2,b,by simp[upd],_,f2⟩
  ·have f3_:=hfree 3 kr0;simp only[ldΦ,got]at f3_;simp[go_sem]at f3_;unfold Oper.wp;simp[go_sem,execOp,Act.eval,↓IntWalk.iteOmega,f3_];exact⟨_,rfl,j5 _,by simp[ldΦ,upd]⟩
  ·have d1:=hdeep 1 kr0;simp only[ldΦ,got]at d1;have cke:=qf (w':=plus w2 x) ⟨x,rfl⟩ ek;unfold Oper.wp;simp[go_sem,execOp,Act.eval,↓IntWalk.iteOmega,d1,cke];exact⟨_,rfl,j5 _,by simp[ldΦ,upd]⟩
  ·obtain⟨b,e21,V,f2⟩:=hdeep 0 kr0;have e23:=hdeep 2 kr0;simp only[ldΦ,got]at e21 e23;simp at e21 e23;have hl:=a4B f2 kd;rw[hlk.it]at hl;unfold Oper.wp;simp[go_sem,execOp,Act.eval,↓IntWalk.iteOmega,e21,e23,hl,Result.andThen];exact⟨_,rfl,j5 _,by simp[ldΦ,upd]⟩
  ·have d3:=hdeep 3 kr0;simp only[ldΦ,got]at d3;unfold Oper.wp;simp[go_sem,execOp,Act.eval,↓IntWalk.iteOmega,d3];exact⟨_,rfl,j5 _,by simp[ldΦ,upd]⟩
  ·have d4:=hdeep 4 kr0;simp only[ldΦ,got]at d4;unfold Oper.wp;simp[go_sem,execOp,Act.eval,↓IntWalk.iteOmega,d4];exact⟨_,rfl,j5 _,by simp[ldΦ,upd]⟩
  ·have d4:=hdeep 4 kr0;simp only[ldΦ,got]at d4;unfold Oper.wp;simp[go_sem,execOp,Act.eval,↓IntWalk.iteOmega,d4];exact⟨_,rfl,j5 _,by simp[ldΦ,upd]⟩
  ·have d5:=hdeep 5 kr0;simp only[ldΦ,got]at d5;unfold Oper.wp;simp[go_sem,execOp,Act.eval,↓IntWalk.iteOmega,d5];exact⟨_,rfl,j5 _,by simp[ldΦ,upd]⟩
 case fin=>
  rintro t w3 x3 hΦ;have r5:=hΦ 5 dc0;have r6:=hΦ 6 dc0;have r7:=hΦ 7 dc0;simp only[ldΦ]at r5 r6 r7;simp only[zh,List.take_succ_cons,List.take_zero,List.drop_succ_cons,List.drop_zero,r5,r6,r7];simp only[Act.put];simp only[List.setIfInBounds_toArray,List.set_cons_succ,List.set_cons_zero];clear hΦ r5 r6 r7;have k0_:=i7 x3 k0;have k1_:=i7 x3 k1;clear k0 k1 ek;obtain⟨k0,k1⟩:=And.intro k0_ k1_;go_upto_region 8 with(first|(refine wpList_load_row rfl 34 (Operand.tmp 2) rfl q kr0 _ _ _ _ (i7 sk9 k0) Tryz.underlying34 rfl (by rw[acs];kernel_rfl) ?_)|(go_at_call 15;refine(LT.it _ (i9 (i9 (i9 x1 x2) x3) sk9)).mono ?_;rintro r w4 ⟨h1,y1,rfl,x4,o1⟩)|(refine z8 rfl 95 _ rfl (qa h1) ?hf ?_;case hf=>(simp only[List.map_toArray,List.map_cons,List.map_nil];kernel_rfl))|(refine j6 rfl 95 (Operand.tmp 10) _ rfl w4.heap.size (qa h1) (by simp[go_sem]) rfl _ _ (qc _ _) kr0 kr0 (qX _) ?_));refine qz (fun w'=>UwI w1 w' w4.heap.size h1 y1 s∧(∃y,w'=plus w3 y)) ⟨⟨i9 (i9 (i9 x2 x3) (i9 sk9 x4)) (ql sk9 (Nat.le_refl _)),(o1.base (T':=w1) (qu (i9 (i9 x2 x3) sk9))).ex (ql sk9 (Nat.le_refl _)),p9 (qc _ _),qu (i9 (i9 x2 x3) (i9 sk9 x4))⟩,i9 (i9 sk9 x4) (ql sk9 (Nat.le_refl _))⟩ ?_;obtain⟨p,hp⟩:∃p,w4.heap.size=p:=⟨_,rfl⟩
  try simp only[hp]
  rintro w5 ⟨U,x35⟩;have k1_:=i7 x35 k1;clear k0 k1 o1;have k1:=k1_;have hC:=fun w' (hw:∃y,w'=plus w5 y)=>HC.it w1 w' p h1 y1 x1 (U.on hw)
  replace hC:=qw.mk hC
  go_upto_region 9 with(first|(refine wpList_load_row rfl 66 (Operand.tmp 3) rfl (q+1) kr0 _ _ _ _ (i7 sk9 k1) Tryz.underlying66 rfl (by rw[ace];kernel_rfl) ?_)|(refine(hC.it _ sk9).mono ?_;rintro r w6 ⟨rfl,x6,hu⟩)|(refine j6 rfl 36 (Operand.tmp 11) _ rfl w6.heap.size [.int .i64 A,.int .i64 B,.int .i64 C] (by simp[go_sem]) rfl _ _ (qc _ _) kr0 rfl (by intro v hv;simp at hv;rcases hv with rfl|rfl|rfl<;>rfl) ?_));refine qz (fun w'=>(∃y,w'=plus w6 y)∧w'.heap[w6.heap.size]?=some (.cells #[.int .i64 A,.int .i64 B,.int .i64 C] 36)) ⟨ql sk9 (Nat.le_refl _),p9 (qc _ _)⟩ ?_;obtain⟨b,hb⟩:∃b,w6.heap.size=b:=⟨_,rfl⟩
  try simp only[hb]
  rintro w7 ⟨x7,kb⟩;have x17:=i9 x6 x7;have k2_:=i7 x17 k2;have k3_:=i7 x17 k3;have hq3:=qi k3;clear k1 k2 k3 U hC;obtain⟨k2,k3⟩:=And.intro k2_ k3_;clear k2_ k3_ k1_;by_cases h0:er=0;rotate_left
  ·obtain⟨rfl,rfl,rfl⟩:=her.it h0;have d0:(er==0)=false:=by rw[beq_eq_false_iff_ne];exact h0
   go_wp2_with (first|(refine j6 rfl 34 (Operand.tmp 4) _ rfl (q+2) (qa sh0) rfl rfl _ _ (i7 sk9 k2) kr0 kr0 (qX _) ?_)|(refine j6 rfl 36 (Operand.tmp 5) _ rfl (q+3) [.int .i64 0,.int .i64 0,.int .i64 0] rfl rfl _ _ (l9 (i7 sk9 k3) om0) kr0 rfl (by intro v hv;simp at hv;subst hv;rfl) ?_));exact bodyPost_ret (qy Tryz.results9 _ _ (q+2) (q+3) 34 36 (qa sh0).toArray #[.int .i64 0,.int .i64 0,.int .i64 0] _ _ (.int .i64 er) rfl rfl rfl (l9 (p9 (i7 sk9 k2)) om0) (p9 (l9 (i7 sk9 k3) om0)) Tryz.underlying34 rfl kr0 Tryz.underlying36 rfl kr0) rfl ⟨sh0,sx0,rfl,ql (ql (i9 x1 (i9 x17 sk9)) om0) om0,fun e0=>absurd e0 h0,fun _=>⟨rfl,rfl⟩⟩
  subst h0;go_upto_region 11 with fail;obtain⟨h',x',U⟩:=hu (by first|rfl|trivial);have U7:=U.on x7;have kp:=U7.bx;obtain⟨cu,hcu⟩:∃c,qa h'=c:=⟨_,rfl⟩;have lcu:cu.length=7:=by rw[←hcu];rfl
  have acu:cu.toArray.size=7:=by simpa using lcu
  have hcu1:∀v∈cu,v.oneCell'=true:=by rw[←hcu];exact qX h'
  rw[hcu]at kp;have hU:∀j v,cu[j]?=some v→w7.cell? ⟨p,0+j,none⟩=some v:=fun j v hj=>by rw[Nat.zero_add];exact k9 kp hj
  have c0:w7.cell? ⟨b,0,none⟩=some (.int .i64 A):=i6 kb rfl;have c1:w7.cell? ⟨b,1,none⟩=some (.int .i64 B):=i6 kb rfl;have c2:w7.cell? ⟨b,2,none⟩=some (.int .i64 C):=i6 kb rfl;have lp0:=qi kp;have lb0:=qi kb;have hhu:=qw.mk hcu;clear hcu;have hgp:some p≠some (q+2):=fun e=>by cases e;rw[k2]at kp;cases kp
  have hgb:some b≠some (q+2):=fun e=>by cases e;rw[k2]at kb;cases kb
  have hgq:some (q+3)≠some (q+2):=fun e=>by cases e
  refine zR 4 dtS (dtΦ p (q+2) cu A B C (some (q+2))) (N8 3 [] (some (q+2))) P3 (QP _) kr0 kr0 dc0 (a6D p (q+2) cu A B C (some (q+2))) ?steps ?fin
  case steps=>
   refine⟨?_,?_,?_,?_,trivial⟩<;>intro a D w' hg hfree hdeep hD
   ·have f10_:=hfree 10 kr0;simp only[dtΦ,got]at f10_;simp[go_sem]at f10_;unfold Oper.wp;simp[go_sem,execOp,Act.eval,↓IntWalk.iteOmega,f10_];exact⟨_,rfl,qp dc0 (j5 _),by simp[dtΦ,upd]⟩
   ·have e9:=hdeep 0 kr0;simp only[dtΦ,got]at e9;simp at e9;have kq:=qI hg.t hgp kp;unfold Oper.wp;rw[zP 34 (Operand.tmp 45) rfl p 0 (by simp[Act.eval,e9]) cu _ (fun j v hj=>by rw[Nat.zero_add];exact k9 kq hj) Tryz.underlying34 rfl (by rw[lcu];kernel_rfl)];exact⟨_,rfl,qp dc0 (j5 _),by simp[dtΦ,upd]⟩
   ·have f11_:=hfree 11 kr0;simp only[dtΦ,got]at f11_;simp[go_sem]at f11_;have kq:=qI hg.t hgb kb;have c0:w'.cell? ⟨b,0,none⟩=some (.int .i64 A):=i6 kq rfl;have c1:w'.cell? ⟨b,1,none⟩=some (.int .i64 B):=i6 kq rfl;have c2:w'.cell? ⟨b,2,none⟩=some (.int .i64 C):=i6 kq rfl;unfold Oper.wp;simp[go_sem,execOp,Act.eval,↓IntWalk.iteOmega,f11_,c0,c1,c2];exact⟨_,rfl,qp dc0 (j5 _),by simp[dtΦ,upd]⟩
   ·have f4_:=hfree 4 kr0;have e1:=hdeep 1 kr0;simp only[dtΦ,got]at e1 f4_;simp at e1 f4_;obtain⟨x9,rfl⟩:=B7 hg.t hD;have k2':=i7 (w':=plus w7 x9) ⟨x9,rfl⟩ k2;refine wp_store_row 34 (Operand.tmp 4) (Operand.tmp 46) rfl (q+2) cu.toArray (by simp[Act.eval,f4_]) (by simp[Act.eval,e1]) _ _ k2' (by rw[acu];kernel_rfl) (by rw[acu];kernel_rfl) (Array.all_eq_true_iff_forall_mem.2 fun v hv=>hcu1 v (by simpa using hv)) ?_;exact⟨_,rfl,aj9 Qg hD (fun r hr=>by cases hr),y9 _,p9 k2'⟩
  case fin=>
   rintro t D w8 hDa hg hΦ;have e47:=hΦ 2 dc0;obtain⟨_,k28⟩:=hΦ 3 dc0;simp only[dtΦ]at e47;have k38:=qI hg.t hgq k3;have own:=U7.own.grown_ty hg.t.grow k2 dc0;have x78:=ZF hg.t (i9 x1 x17) (fun k e=>by cases e;omega);simp only[zh,List.take_succ_cons,List.take_zero,List.drop_succ_cons,List.drop_zero,e47];simp only[Act.put];simp only[List.setIfInBounds_toArray,List.set_cons_succ,List.set_cons_zero];clear hΦ e47 hg hDa k2 k3 kb kp;go_wp2_with (refine j6 rfl 36 (Operand.tmp 5) _ rfl (q+3) [.int .i64 A,.int .i64 B,.int .i64 C] rfl rfl _ _ (i7 sk9 k38) kr0 rfl (by intro v hv;simp at hv;rcases hv with rfl|rfl|rfl<;>rfl) ?_);exact bodyPost_ret (qy Tryz.results9 _ _ (q+2) (q+3) 34 36 cu.toArray #[.int .i64 A,.int .i64 B,.int .i64 C] _ _ (.int .i64 0) rfl rfl rfl (l9 (i7 sk9 k28) om0) (p9 (i7 sk9 k38)) Tryz.underlying34 rfl (by rw[acu];kernel_rfl) Tryz.underlying36 rfl kr0) rfl ⟨h',x',by rw[hhu.it],ql (i9 x78 sk9) om0,fun _=>((own.ex sk9).row_out om0).base (qu x1),fun e0=>absurd rfl e0⟩
end
section
structure a1A (w w':World):Prop where
 size:w.heap.size≤w'.heap.size
 blk:∀(g:Nat) (cur:Array Value) (t':TypeId),w.heap[g]?=some (.cells cur t')→t' ∉ F2→w'.heap[g]?=some (.cells cur t')
theorem qQ{w w':World}(h:∃y,w'=plus w y):a1A w w':=⟨qu h,fun _ _ _ hb _=>i7 h hb⟩
theorem qB{w w1 w2:World}(h1:a1A w w1)(h2:a1A w1 w2):a1A w w2:=⟨Nat.le_trans h1.size h2.size,fun g c t' hb ht=>h2.blk g c t' (h1.blk g c t' hb ht) ht⟩
theorem ay7{W w:World}{g:Nat}{cs:Array Value}(h:a1A W w)(hg:W.heap.size≤g):a1A W (w.setRow g cs):=⟨by rw[setRow_size];exact h.size,fun k c t' hb ht=>l9 (h.blk k c t' hb ht) (by have:=qi hb;omega)⟩
theorem F1{W w:World}{g i:Nat}{u:Value}(h:a1A W w)(hg:W.heap.size≤g):a1A W (w.setCell ⟨g,i,none⟩ u):=⟨by rw[B9];exact h.size,fun k c t' hb ht=>qj (h.blk k c t' hb ht) (by have:=qi hb;omega)⟩
theorem aw6{α:Type}{f:α→List Value}{T w w1:World}{ao:Option Addr}{n cap c:Nat}{l:List α}{e:TypeId}(hgr:w.grownBy w1 (Value.ownBlock (.slice ao n cap)))(hown:Own e c f T w ao n cap l)(he:e∈F2):a1A w w1:=⟨hgr.size,fun g cur t' hb ht=>t8 hgr hown hb (fun e0=>ht (e0▸he))⟩
theorem Zl{w:World}{g:Nat}{cur cs:Array Value}{e:TypeId}(hb:w.heap[g]?=some (.cells cur e))(he:e∈F2):a1A w (w.setRow g cs):=⟨by rw[setRow_size];exact Nat.le_refl _,fun k c t' hk ht=>l9 hk (fun e0=>by subst e0;rw[hb]at hk;cases hk;exact ht he)⟩
structure BxI (W T w:World) (p:Nat) (h:SH) (x:SX) (s:Sc):Prop where
 ex:∃y,w=plus T y
 own:zi T w h x s
 bx:w.heap[p]?=some (.cells (qa h).toArray 34)
 hp:T.heap.size≤p
 kp:a1A W w
theorem BxI.on{W T w w':World}{p:Nat}{h:SH}{x:SX}{s:Sc}(a:BxI W T w p h x s)(hw:∃y,w'=plus w y):BxI W T w' p h x s:=⟨i9 a.ex hw,a.own.ex hw,i7 hw a.bx,a.hp,qB a.kp (qQ hw)⟩
theorem zS.set_sc{T w:World}{gb i:Nat}{u:Value}{cur:Array Value}{ga ka:Option Addr}{gn gc kn kc:Nat}{hs:List RH}{g:Gr}(o:zS T w ga gn gc ka kn kc hs g)(hb:w.heap[gb]?=some (.cells cur 34)):zS T (w.setCell ⟨gb,i,none⟩ u) ga gn gc ka kn kc hs g:=o.set_other hb dc0 dc0 dc0
def Z0 (W T:World) (S:Sc) (A B C er:Int) (r:Ending) (w':World):Prop:=∃h' x',r=.returned (.tuple #[.agg (qa h').toArray,.agg #[.int .i64 A,.int .i64 B,.int .i64 C],.int .i64 er])∧(∃y,w'=plus T y)∧a1A W w'∧(er=0→zi T w' h' x' S)
theorem N9{W T w:World}{g2 g3:Nat}{cs:List Value}{c2 c3 c4:Array Value}{h':SH}{x':SX}{S:Sc}{A B C er:Int}(hc:qa h'=cs)(k2:w.heap[g2]?=some (.cells c2 34))(k3:w.heap[g3]?=some (.cells c3 36))(hne:g2≠g3)(h2:T.heap.size≤g2)(h3:T.heap.size≤g3)(hw:∃y,w=plus T y)(hk:a1A W w)(h4:W.heap.size≤g2)(h5:W.heap.size≤g3)(own:er=0→zi T w h' x' S):
  Z0 W T S A B C er (.returned (.tuple #[.agg cs.toArray,.agg #[.int .i64 A,.int .i64 B,.int .i64 C],.int .i64 er])) ((w.setRow g2 cs.toArray).setRow g3 c4):=
 ⟨h',x',by rw[hc],ql (ql hw h2) h3,ay7 (ay7 hk h4) h5,fun e0=>((own e0).row_other k2 dc0).row_other (l9 k3 hne) dc0⟩
end
end Go.Proofs.YtcekcihijdipoaaGreat
