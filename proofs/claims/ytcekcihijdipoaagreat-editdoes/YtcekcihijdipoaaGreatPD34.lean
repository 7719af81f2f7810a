/- A pack of texts: EdDoN, EdMap, EdDoT. -/
import Derived.Test.YtcekcihijdipoaaGreatPD33
namespace Go.Proofs.YtcekcihijdipoaaGreat
set_option maxRecDepth 100000
set_option maxHeartbeats 16000000
open Go.RowKit Go.ChangeShapes Go.WideShapes Go.ChangeAt
set_option linter.unusedSimpArgs false
set_option linter.unusedVariables false
attribute [local go_sem] qn qZ A2 zg zz zA t5 qJ zf qO qD t6
section
def a9w (i:Nat):List Nat:=match i with|0=>[40]|1=>[41]|2=>[42]|3=>[43]|4=>[44]|5=>[45]|6=>[46]|7=>[47]|8=>[48]|9=>[49]|10=>[50]|11=>[51]|12=>[52]|13=>[53]|14=>[54]|_=>[]
def Z4 (T W:World) (p q b:Nat) (h:SH) (x:SX) (s:Sc) (e:EH) (n:Nd) (k:Nat) (gq:Option Nat) (i:Nat) (t:Nat→Value) (D:Nat→Bool) (w':World):Prop:=match i with
 |0=>t 40=.pointer (some ⟨p,0,none⟩)
 |1=>t 41=.pointer (some ⟨p,0,none⟩)
 |2=>t 42=.pointer (some ⟨p,0,none⟩)
 |3=>t 43=.pointer (some ⟨p,0,none⟩)
 |4=>t 44=.pointer (some ⟨p,2,none⟩)
 |5=>t 45=.slice h.na h.nn h.nc
 |6=>t 46=.pointer (some ⟨b,0,none⟩)
 |7=>t 47=.int .i64 k
 |8=>t 48=.pointer (some ⟨q,6,none⟩)
 |9=>t 49=.agg (fN e.nd).toArray
 |10=>∃h3,t 50=.agg (fN h3).toArray∧D 10=true∧(D 11=false→zV T w' h3 n)
 |11=>∃a n' c x',t 51=.slice a n' c∧D 11=true∧(∃y,w'=plus T y)∧zi T w' (Y1 h a n' c) x' ⟨s.g,zU s.ns k n,s.ms,s.ts,s.root⟩
 |12=>t 52=.pointer (some ⟨p,0,none⟩)
 |13=>t 53=.pointer (some ⟨p,0,none⟩)
 |14=>t 54=.pointer (some ⟨p,2,none⟩)
 |_=>True
theorem a4G(T W:World)(p q b:Nat)(h:SH)(x:SX)(s:Sc)(e:EH)(n:Nd)(k:Nat)(gq:Option Nat):∀i t t' D w D' w',Z4 T W p q b h x s e n k gq i t D w→(∀s∈a9w i,t' s=t s)→N8 11 [10] gq D w D' w'→Z4 T W p q b h x s e n k gq i t' D' w':=by
 intro i t t' D w D' w' h_ hs' ht
 match i with
 |0=>exact(hs' 40 dc0).trans h_
 |1=>exact(hs' 41 dc0).trans h_
 |2=>exact(hs' 42 dc0).trans h_
 |3=>exact(hs' 43 dc0).trans h_
 |4=>exact(hs' 44 dc0).trans h_
 |5=>exact(hs' 45 dc0).trans h_
 |6=>exact(hs' 46 dc0).trans h_
 |7=>exact(hs' 47 dc0).trans h_
 |8=>exact(hs' 48 dc0).trans h_
 |9=>exact(hs' 49 dc0).trans h_
 |10=>obtain⟨h3,e1,e2,e3⟩:=h_;exact⟨h3,(hs' 50 dc0).trans e1,ht.m 10 e2,fun q=>by have q2:D 11=false:=(by cases e9:D 11;rfl;rw[ht.m 11 e9]at q;cases q);exact(e3 q2).ex (M1 ht.t (q2.trans q.symm))⟩
 |11=>obtain⟨a,n',c,x',e1,e2,e3,e4⟩:=h_;exact⟨a,n',c,x',(hs' 51 dc0).trans e1,ht.m 11 e2,i9 e3 (C7 ht e2),e4.ex (C7 ht e2)⟩
 |12=>exact(hs' 52 dc0).trans h_
 |13=>exact(hs' 53 dc0).trans h_
 |14=>exact(hs' 54 dc0).trans h_
 |i+15=>trivial
theorem aq3{T w:World}{p:Nat}{h:SH}{x:SX}{s:Sc}(I:UwI T w p h x s)(hm:C2 s=true)(e:EH)(ps:List PH)(n:Nd)(m:Ms)(t:Tp)(hE:I9 T e ps n m t)(hfar:e.nd.n≤10000)(hk:e.kind=1):
  Calls Tryz.prog 63 #[.pointer (some ⟨p,0,none⟩),vE e] w fun r w'=>ZY T p (K7 s (qt e n m t)) (if qF s (qt e n m t)=0 then zb s.g.sl else 0) (if qF s (qt e n m t)=0 then zQ s.g.sl else 0) 0 (qF s (qt e n m t)) r w':=by
 have hA:=I.own.at (A7 hm);have hG:=hA.g;obtain⟨hgk,hnl,_,_,_⟩:=B6 hm;obtain⟨hok,hgl,_,_⟩:=zx hgk;have hnn:=hA.nn;have hmn:=hA.mn.1;have htn:=hA.tn.1;have f4:=(A7 hm).nn;obtain⟨k,hkt⟩:∃k,B3 s.g.sl=k:=⟨_,rfl⟩;have hkle:=QS s.g.sl;rw[hkt]at hkle;have hs:K7 s (qt e n m t)=⟨H5 s.g,zU s.ns k n,s.ms,s.ts,s.root⟩:=by simp[K7,qt,hk,hkt]
 have hnd:=a0l e;obtain⟨b2,hb2⟩:∃b,ze s.ms.length s.ts.length n=b:=⟨_,rfl⟩;obtain⟨er,her⟩:∃v,B4 s.g=v:=⟨_,rfl⟩;obtain⟨mr,hmr⟩:∃v,Q3 s.g=v:=⟨_,rfl⟩;obtain⟨sv,hsv⟩:∃v,ah3 s.g=v:=⟨_,rfl⟩;obtain⟨gv,hgv⟩:∃v,ah8 s.g=v:=⟨_,rfl⟩;have hres:er=0→mr=H5 s.g∧sv=k∧gv=zQ s.g.sl:=fun e0=>⟨by rw[←hmr,Q3,her,if_pos e0],by rw[←hsv,ah3,her,if_pos e0,zb,hkt],by rw[←hgv,ah8,her,if_pos e0]⟩
 have he:qF s (qt e n m t)=if b2=true then er else 8:=by simp[qF,qt,hk,hb2,her]
 obtain⟨E,hE'⟩:∃E:Int,(if b2=true then er else 8)=E:=⟨_,rfl⟩;rw[hE']at he;rw[he,hs];obtain⟨V1,hV1⟩:∃v:Int,(if E=0 then zb s.g.sl else 0)=v:=⟨_,rfl⟩;obtain⟨V2,hV2⟩:∃v:Int,(if E=0 then zQ s.g.sl else 0)=v:=⟨_,rfl⟩;rw[hV1,hV2];rw[zb,hkt]at hV1;have hV0:E≠0→V1=0∧V2=0:=fun e0=>⟨by rw[←hV1,if_neg e0],by rw[←hV2,if_neg e0]⟩
 have hVk:E=0→V1=k∧V2=zQ s.g.sl:=fun e0=>⟨by rw[←hV1,if_pos e0],by rw[←hV2,if_pos e0]⟩
 replace hE':=qw.mk hE'
 have hck:(if ze h.mn h.tn n then(0:Int)else 8)=(if b2 then 0 else 8):=by rw[←hb2,hmn,htn]
 replace hck:=qw.mk hck
 replace hres:=qw.mk hres
 replace hV0:=qw.mk hV0
 replace hVk:=qw.mk hVk
 have hN:=hE.nd;have hM:∀w',QL w' h.ga h.gn h.ka h.kn x.gr s.g→Calls Tryz.prog 117 #[.agg #[.slice h.ga h.gn h.gc,.slice h.ka h.kn h.kc]] w' fun e w''=>∃ao' cap' ko' kcap' hs',e=.returned (.tuple #[.agg #[.slice ao' mr.sl.length cap',.slice ko' mr.ks.length kcap'],.agg #[.int .i64 sv,.int .i64 gv],.int .i64 er])∧(∃y,w''=plus w' y)∧zS w' w'' ao' mr.sl.length cap' ko' mr.ks.length kcap' hs' mr:=by
  intro w' hg;have h1:=a2m h.ga h.gn h.gc h.ka h.kn h.kc x.gr s.g w' hg;rw[hmr,hsv,hgv,her]at h1;exact h1
 clear he hs hA hm hgk hb2 hmn htn hE hV1 hV2 hok hkt;show Calls Tryz.prog 63 #[.pointer (some ⟨p,0,none⟩),.agg (fE e).toArray] w _;obtain⟨ce,hce⟩:∃c,fE e=c:=⟨_,rfl⟩;rw[hce]at hnd ⊢;obtain⟨q,hq⟩:∃q,w.heap.size=q:=⟨_,rfl⟩;have lp:=qi I.bx;go_enter Tryz.func63,Tryz.ntmps63;go_upto_region 1 with fail;refine qz (fun w'=>(∃y,w'=plus w y)∧w'.heap[q]?=some (.cells ce.toArray 66)∧w'.heap[q+1]?=some (.cells #[.int .i64 0,.int .i64 0,.int .i64 0] 36)) ⟨sk9,hq▸qm (qc _ _),by rw[←hq,←j8 w];exact qc _ _⟩ ?_
 try simp only[hq]
 rintro w1 ⟨x1,k1,k2⟩;have I1:=I.on x1;have k0:=I1.bx;have hN1:=hN.ex (i9 I.ex x1);obtain⟨cS,hcS⟩:∃c,qa h=c:=⟨_,rfl⟩;have hlS:cS.length=7:=by rw[←hcS];rfl
 have hNq:∀j v,(fN e.nd)[j]?=some v→w1.cell? ⟨q,6+j,none⟩=some v:=fun j v hj=>k9 k1 (hnd j v hj)
 have CK:a9S w1 cS (fN e.nd) (if b2 then 0 else 8):=⟨fun w' hw=>hcS▸aq8 (hN1.ex hw) hfar hck.it⟩;clear hck;have hS:∀j v,cS[j]?=some v→w1.cell? ⟨p,0+j,none⟩=some v:=fun j v hj=>by rw[Nat.zero_add];exact k9 k0 (by rw[hcS];exact hj)
 refine qg kr0 kr0 ?_
 (repeat(first|(refine zI kr0 34 (Operand.tmp 12) rfl p 0 kr0 cS _ (fun w' hw j v hj=>qf hw (hS j v hj)) Tryz.underlying34 rfl (by rw[hlS];kernel_rfl) ?_;simp only[Act.put,List.setIfInBounds_toArray,List.set_cons_succ,List.set_cons_zero])|(refine zI kr0 56 (Operand.tmp 14) rfl q 6 kr0 (fN e.nd) _ (fun w' hw j v hj=>qf hw (hNq j v hj)) Tryz.underlying56 rfl kr0 ?_;simp only[Act.put,List.setIfInBounds_toArray,List.set_cons_succ,List.set_cons_zero])|go_big_quiet_step ((go_at_call 17;exact C9 (CK.it _ sk9)))))
 refine wpQuiet_nil ?_;rintro _ ⟨x2,rfl⟩;cases b2
 ·obtain rfl:E=8:=by rw[←hE'.it];simp
  obtain⟨rfl,rfl⟩:=hV0.it dc0;go_wp2_with (refine j6 rfl 36 (Operand.tmp 4) _ rfl (q+1) [.int .i64 0,.int .i64 0,.int .i64 0] rfl rfl _ _ (i7 sk9 k2) kr0 rfl (by intro v hv;simp at hv;subst hv;rfl) ?_);exact bodyPost_ret (zv Tryz.results63 _ _ (q+1) 36 #[.int .i64 0,.int .i64 0,.int .i64 0] _ _ (.int .i64 8) rfl rfl (p9 (i7 sk9 k2)) Tryz.underlying36 rfl kr0) rfl ⟨rfl,ql (i9 I.ex (i9 x1 sk9)) (by have:=qu I.ex;omega),fun e0=>by cases e0⟩
 obtain rfl:E=er:=by rw[←hE'.it];simp
 clear hE' CK hS hNq k0 hcS hlS hN1;go_upto_region 4 with fail;refine qz (fun w'=>∃y,w'=plus w1 y) sk9 ?_;rintro w2 x02;have k1':=i7 x02 k1;have k2':=i7 x02 k2;have x1':=i9 x1 x02;have I2:=I1.on x02;clear k1 k2 I1 x1 x02;obtain⟨k1,k2⟩:=And.intro k1' k2';have x1:=x1';clear k1' k2' x1';have k0:=I2.bx;have c0:=k9 (i:=0) k0 rfl;have c1:=k9 (i:=1) k0 rfl;have hG2:=hG.ex x1;go_upto_region 5 with(first|(go_at_call 117;refine(hM _ (hG2.ex sk9)).mono ?_;rintro r w3 ⟨a3,c3,b3,d3,hs3,rfl,x3,o3⟩)|(refine j6 rfl 27 (Operand.tmp 7) _ rfl w3.heap.size [.slice a3 mr.sl.length c3,.slice b3 mr.ks.length d3] (by simp[go_sem]) rfl _ _ (qm (qc _ _)) kr0 kr0 (by intro v hv;simp at hv;rcases hv with rfl|rfl<;>rfl) ?_)|(refine j6 rfl 32 (Operand.tmp 8) _ rfl (w3.heap.size+1) [.int .i64 sv,.int .i64 gv] (by simp[go_sem]) rfl _ _ (l9 (by rw[←j8 w3];exact qc _ _) om0) kr0 kr0 (by intro v hv;simp at hv;rcases hv with rfl|rfl<;>rfl) ?_));refine qz (fun w'=>(∃y,w'=plus w3 y)∧w'.heap[w3.heap.size]?=some (.cells (List.toArray [.slice a3 mr.sl.length c3,.slice b3 mr.ks.length d3]) 27)∧w'.heap[w3.heap.size+1]?=some (.cells #[.int .i64 sv,.int .i64 gv] 32)) ⟨ql (ql sk9 (Nat.le_refl _)) (Nat.le_succ _),l9 (p9 (qm (qc _ _))) om0,p9 (l9 (by rw[←j8 w3];exact qc _ _) om0)⟩ ?_;obtain⟨b,hb⟩:∃b,w3.heap.size=b:=⟨_,rfl⟩
 try simp only[hb]
 rintro w4 ⟨x4,k7,k8⟩;have x34:=i9 x3 x4;have I4:=I2.on x34;have o4:=(o3.base (T':=T) (qu I2.ex)).ex x4;have k1':=i7 x34 k1;have k2':=i7 x34 k2;have hbq:q+1<b:=by have h1:=qi k2;have h2:=qu x3;omega
 clear k1 k2 k0 c0 c1 hG2 I2 o3;obtain⟨k1,k2⟩:=And.intro k1' k2';clear k1' k2';have hTq:T.heap.size≤q+1:=by have:=qu I.ex;omega
 by_cases h0:E=0;rotate_left
 ·obtain⟨rfl,rfl⟩:=hV0.it h0;have d0:(E==0)=false:=by rw[beq_eq_false_iff_ne];exact h0
  go_wp2_with (refine j6 rfl 36 (Operand.tmp 4) _ rfl (q+1) [.int .i64 0,.int .i64 0,.int .i64 0] rfl rfl _ _ (i7 sk9 k2) kr0 rfl (by intro v hv;simp at hv;subst hv;rfl) ?_);exact bodyPost_ret (zv Tryz.results63 _ _ (q+1) 36 #[.int .i64 0,.int .i64 0,.int .i64 0] _ _ (.int .i64 E) rfl rfl (p9 (i7 sk9 k2)) Tryz.underlying36 rfl kr0) rfl ⟨rfl,ql (i9 I4.ex sk9) hTq,fun e0=>absurd e0 h0⟩
 subst h0;obtain⟨hmk,rfl,hgv2⟩:=hres.it (by first|rfl|trivial)
 replace hmk:=qw.mk hmk
 obtain⟨rfl,hV2⟩:=hVk.it (by first|rfl|trivial);obtain rfl:gv=V2:=hgv2.trans hV2.symm;clear hVk hV0 hres hgv2 hV2 hgv hsv her;have k0:=I4.bx;have z0:=j9 (i:=0) k0;have z1:=j9 (i:=1) k0;have c0:=k9 (i:=0) k0 rfl;have c1:=k9 (i:=1) k0 rfl;have d0:=k9 (i:=0) k7 rfl;have d1:=k9 (i:=1) k7 rfl;have lp0:=qi k0;have lb0:=qi k7;have hbp:b≠p:=om0;go_upto_region 8 with fail;refine qz (fun w'=>∃h' x',h'.nn=h.nn∧UwI T w' p h' x' ⟨mr,s.ns,s.ms,s.ts,s.root⟩∧w'.heap[q]?=some (.cells ce.toArray 66)∧w'.heap[q+1]?=some (.cells #[.int .i64 0,.int .i64 0,.int .i64 0] 36)∧w'.heap[b+1]?=some (.cells #[.int .i64 k,.int .i64 gv] 32)) ?nm ?_
 case nm=>
  refine⟨K2 h a3 mr.sl.length c3 b3 mr.ks.length d3,⟨hs3,x.nh,x.mh,x.ph,x.th⟩,rfl,⟨?_,?_,?_,I.hp⟩,?_,?_,?_⟩
  ·exact qb (qb I4.ex I.hp) I.hp
  ·exact((I4.own.set_other (i:=0) (u:=.slice a3 mr.sl.length c3) k0 dc0).set_other (i:=1) (u:=.slice b3 mr.ks.length d3) (y8 k0) dc0).withGraph ((o4.set_other10 (i:=0) (u:=.slice a3 mr.sl.length c3) k0).set_other10 (i:=1) (u:=.slice b3 mr.ks.length d3) (y8 k0))
  ·have:=y8 (i:=1) (u:=.slice b3 mr.ks.length d3) (y8 (i:=0) (u:=.slice a3 mr.sl.length c3) k0);exact this
  ·exact qj (qj k1 om0) om0
  ·exact qj (qj k2 om0) om0
  ·exact qj (qj k8 om0) om0
 clear k0 k1 k2 k7 k8 z0 z1 c0 c1 d0 d1 lp0 lb0 o4 I4 x34 x4 x3;rintro w5 ⟨h',x',hnn',U,k1,k2,k8⟩;have k0:=U.bx;have hN1:=hN.ex U.ex;have hgq:=F4 U.own.nl k1 dc0;have hgp:=F4 U.own.nl k0 dc0;have hgt:=F4 U.own.nl k2 dc0;have hgb:=F4 U.own.nl k8 dc0;refine zR 15 a9w (Z4 T w5 p q (b+1) h' x' ⟨mr,s.ns,s.ms,s.ts,s.root⟩ e n k (Value.ownBlock (.slice h'.na h'.nn h'.nc))) (N8 11 [10] (Value.ownBlock (.slice h'.na h'.nn h'.nc))) P3 (QP _) kr0 kr0 dc0 (a4G T w5 p q (b+1) h' x' ⟨mr,s.ns,s.ms,s.ts,s.root⟩ e n k (Value.ownBlock (.slice h'.na h'.nn h'.nc))) ?steps ?fin
 case steps=>
  refine⟨?_,?_,?_,?_,?_,?_,?_,?_,?_,?_,?_,?_,?_,?_,?_,trivial⟩<;>intro a D w' hg hfree hdeep hD
  ·have f0_:=hfree 0 kr0;simp only[Z4,got]at f0_;simp[go_sem]at f0_;unfold Oper.wp;simp[go_sem,execOp,Act.eval,↓IntWalk.iteOmega,f0_];exact⟨_,rfl,qp dc0 (j5 _),by simp[Z4,upd]⟩
  ·have f0_:=hfree 0 kr0;simp only[Z4,got]at f0_;simp[go_sem]at f0_;unfold Oper.wp;simp[go_sem,execOp,Act.eval,↓IntWalk.iteOmega,f0_];exact⟨_,rfl,qp dc0 (j5 _),by simp[Z4,upd]⟩
  ·have d1:=hdeep 1 kr0;simp only[Z4,got]at d1;simp[go_sem]at d1;unfold Oper.wp;simp[go_sem,execOp,Act.eval,↓IntWalk.iteOmega,d1];exact⟨_,rfl,qp dc0 (j5 _),by simp[Z4,upd]⟩
  ·have d2:=hdeep 2 kr0;simp only[Z4,got]at d2;simp[go_sem]at d2;unfold Oper.wp;simp[go_sem,execOp,Act.eval,↓IntWalk.iteOmega,d2];exact⟨_,rfl,qp dc0 (j5 _),by simp[Z4,upd]⟩
  ·have d3:=hdeep 3 kr0;simp only[Z4,got]at d3;simp[go_sem]at d3;unfold Oper.wp;simp[go_sem,execOp,Act.eval,↓IntWalk.iteOmega,d3];exact⟨_,rfl,qp dc0 (j5 _),by simp[Z4,upd]⟩
  ·have d4:=hdeep 4 kr0;simp only[Z4,got]at d4;simp[go_sem]at d4;have kp:=qI hg.t hgp k0;have cc2:=k9 (i:=2) kp rfl;unfold Oper.wp;simp[go_sem,execOp,Act.eval,↓IntWalk.iteOmega,d4,cc2];exact⟨_,rfl,qp dc0 (j5 _),by simp[Z4,upd]⟩
  ·have f8_:=hfree 8 kr0;simp only[Z4,got]at f8_;simp[go_sem]at f8_;unfold Oper.wp;simp[go_sem,execOp,Act.eval,↓IntWalk.iteOmega,f8_];exact⟨_,rfl,qp dc0 (j5 _),by simp[Z4,upd]⟩
  ·have d6:=hdeep 6 kr0;simp only[Z4,got]at d6;simp[go_sem]at d6;have kb:=qI hg.t hgb k8;have cb0:w'.cell? ⟨b+1,0,none⟩=_:=i6 kb rfl;unfold Oper.wp;simp[go_sem,execOp,Act.eval,↓IntWalk.iteOmega,d6,cb0];exact⟨_,rfl,qp dc0 (j5 _),by simp[Z4,upd]⟩
  ·have f3_:=hfree 3 kr0;simp only[Z4,got]at f3_;simp[go_sem]at f3_;unfold Oper.wp;simp[go_sem,execOp,Act.eval,↓IntWalk.iteOmega,f3_];exact⟨_,rfl,qp dc0 (j5 _),by simp[Z4,upd]⟩
  ·have e9:=hdeep 8 kr0;simp only[Z4,got]at e9;simp at e9;have kq:=qI hg.t hgq k1;unfold Oper.wp;rw[zP 56 (Operand.tmp 48) rfl q 6 (by simp[Act.eval,e9]) (fN e.nd) _ (fun j v hj=>k9 kq (hnd j v hj)) Tryz.underlying56 rfl kr0];exact⟨_,rfl,qp dc0 (j5 _),by simp[Z4,upd]⟩
  ·have e8:=hdeep 9 kr0;simp only[Z4,got]at e8;simp at e8;obtain⟨x9,rfl⟩:=Qp hg (r:=10) dc0 hD;unfold Oper.wp;simp[go_sem,execOp,Act.eval,↓IntWalk.iteOmega,e8];refine(S0 e.nd n _ (hN1.ex ⟨x9,rfl⟩) hfar).mono ?_;rintro r w4 ⟨h3,rfl,hw4,o2⟩;exact⟨_,rfl,qp dc0 hw4,h3,by simp[upd];rfl,y9 _,fun _=>o2.base (qu (i9 U.ex ⟨x9,rfl⟩))⟩
  ·have e5:=hdeep 5 kr0;have e6:=hdeep 7 kr0;obtain⟨h3,e9,D9,o9⟩:=hdeep 10 kr0;have o3:=o9 hD;obtain⟨x9,rfl⟩:=B7 hg.t hD;simp only[Z4,got]at e5 e6 e9;simp at e5 e6 e9;unfold Oper.wp;simp[go_sem,execOp,Act.eval,↓IntWalk.iteOmega,e5,e6,e9];refine(af1 T h'.na h'.nn h'.nc x'.nh k h3 _ (i9 U.ex ⟨x9,rfl⟩) (U.own.nl.ex ⟨x9,rfl⟩) om0 om0).mono ?_;rintro r w4 ⟨a4,n4,c4,rfl,hx4,on4,hgr4⟩;exact⟨_,rfl,aj9 hgr4 hD (fun r hr=>by simp only[List.mem_cons,List.not_mem_nil,or_false]at hr;subst hr;exact D9),a4,n4,c4,_,by simp[upd],y9 _,hx4,(U.own.ex ⟨x9,rfl⟩).putNode o3 om0 hgr4 on4⟩
  ·have d0:=hdeep 0 kr0;simp only[Z4,got]at d0;simp[go_sem]at d0;unfold Oper.wp;simp[go_sem,execOp,Act.eval,↓IntWalk.iteOmega,d0];exact⟨_,rfl,qp dc0 (j5 _),by simp[Z4,upd]⟩
  ·have d12:=hdeep 12 kr0;simp only[Z4,got]at d12;simp[go_sem]at d12;unfold Oper.wp;simp[go_sem,execOp,Act.eval,↓IntWalk.iteOmega,d12];exact⟨_,rfl,qp dc0 (j5 _),by simp[Z4,upd]⟩
  ·have d13:=hdeep 13 kr0;simp only[Z4,got]at d13;simp[go_sem]at d13;unfold Oper.wp;simp[go_sem,execOp,Act.eval,↓IntWalk.iteOmega,d13];exact⟨_,rfl,qp dc0 (j5 _),by simp[Z4,upd]⟩
 case fin=>
  rintro t D w8 hDa hg hΦ;obtain⟨a4,n4,c4,y',e33,_,hxT,own⟩:=hΦ 11 dc0;have e36:=hΦ 14 dc0;simp only[Z4]at e36;have kp:=qI hg.t hgp k0;have cp:=k9 (i:=2) kp rfl;have zp:=j9 (i:=2) kp;have k3:=qI hg.t hgt k2;have kb3:=qI hg.t hgb k8;simp only[zh,List.take_succ_cons,List.take_zero,List.drop_succ_cons,List.drop_zero,e33,e36];simp only[Act.put];simp only[List.setIfInBounds_toArray,List.set_cons_succ,List.set_cons_zero];rw[hmk.it]at own;clear hΦ e33 e36 hg hDa;go_upto_region 9 with fail;refine qz (fun w'=>UwI T w' p (Y1 h' a4 n4 c4) y' ⟨H5 s.g,zU s.ns k n,s.ms,s.ts,s.root⟩∧w'.heap[q+1]?=some (.cells #[.int .i64 0,.int .i64 0,.int .i64 0] 36)∧w'.heap[b+1]?=some (.cells #[.int .i64 k,.int .i64 gv] 32)) ⟨⟨qb hxT I.hp,own.set_other kp dc0,by have:=y8 (i:=2) (u:=.slice a4 n4 c4) kp;exact this,I.hp⟩,qj k3 om0,qj kb3 om0⟩ ?_;clear own kp cp zp k3 kb3 hxT k0 k1 k2 k8 U hgq hgp hgt hgb;rintro w6 ⟨I3,k2,k8⟩;have d0:w6.cell? ⟨b+1,0,none⟩=some (.int .i64 k):=i6 k8 rfl;have d1:w6.cell? ⟨b+1,1,none⟩=some (.int .i64 gv):=i6 k8 rfl;go_wp2_with (refine j6 rfl 36 (Operand.tmp 4) _ rfl (q+1) [.int .i64 k,.int .i64 gv,.int .i64 0] rfl rfl _ _ k2 kr0 rfl (by intro v hv;simp at hv;rcases hv with rfl|rfl|rfl<;>rfl) ?_);exact bodyPost_ret (zv Tryz.results63 _ _ (q+1) 36 #[.int .i64 k,.int .i64 gv,.int .i64 0] _ _ (.int .i64 0) rfl rfl (p9 k2) Tryz.underlying36 rfl kr0) rfl ⟨rfl,ql I3.ex hTq,fun _=>⟨_,_,I3.took k2 hTq⟩⟩
end
section
structure a60 (T w:World) (b:Nat) (L:List (Int × Value)):Prop where
 ex:∃y,w=plus T y
 lt:T.heap.size≤b
 it:∃es c,w.heap[b]?=some (.map es c)∧es.toList.map (fun e=>(e.key,e.val))=L.map (fun p=>(Value.int .u8 p.1,p.2))
def a4f:List (Int × Value)→Int→Option Value
 |[],_=>none
 |p::r,k=>if k=p.1 then some p.2 else a4f r k
theorem a60.on{T w w':World}{b:Nat}{L:List (Int × Value)}(h:a60 T w b L)(hw:∃y,w'=plus w y):a60 T w' b L:=by
 obtain⟨es,c,hb,hk⟩:=h.it;exact⟨i9 h.ex hw,h.lt,es,c,i7 hw hb,hk⟩
theorem au3(k:Int):∀(es:List MapEntry) (L:List (Int × Value)) (i:Nat),es.map (fun e=>(e.key,e.val))=L.map (fun p=>(Value.int .u8 p.1,p.2))→
  (a4f L k=none∧Instr.findNow (.int .u8) (.int .u8 k) es i=some none)∨(∃v j,a4f L k=some v∧Instr.findNow (.int .u8) (.int .u8 k) es i=some (some (j,v)))
 |[],L,i,h=>by
  obtain rfl:L=[]:=by cases L<;>simp_all
  exact .inl ⟨rfl,rfl⟩
 |e::es,L,i,h=>by
  cases L with
  |nil=>simp at h
  |cons y L=>
   simp only[List.map_cons,List.cons.injEq,Prod.mk.injEq]at h;obtain⟨⟨hk,hvv⟩,h⟩:=h;by_cases hq:k=y.1
   ·refine .inr ⟨y.2,i,by simp[a4f,hq],?_⟩;rw[Instr.findNow,hk];simp[Instr.sameNow,hq,hvv]
   ·have hq':(k==y.1)=false:=by rw[beq_eq_false_iff_ne];exact hq
    rcases au3 k es L (i+1) h with⟨h1,h2⟩|⟨v,j,h1,h2⟩
    ·refine .inl ⟨by simp[a4f,hq,h1],?_⟩;rw[Instr.findNow,hk];simp[Instr.sameNow,hq',h2]
    ·refine .inr ⟨v,j,by simp[a4f,hq,h1],?_⟩;rw[Instr.findNow,hk];simp[Instr.sameNow,hq',h2]
theorem ax6(em:Bool)(k:Int)(w:World):(Instr.checkKey em 10000 5 (.int .u8 k)).run Tryz.prog w=.ok () w:=by
 kernel_rfl
theorem a4J(w:World):(zeroValue 90).run Tryz.prog w=.ok .nilFunc w:=by
 kernel_rfl
theorem a4n{k:Int}{es:List MapEntry}{L:List (Int × Value)}(w:World)(h:es.map (fun e=>(e.key,e.val))=L.map (fun p=>(Value.int .u8 p.1,p.2))):
  (a4f L k=none∧(Instr.findKey 5 (.int .u8 k) es).run Tryz.prog w=.ok none w)∨(∃v j,a4f L k=some v∧(Instr.findKey 5 (.int .u8 k) es).run Tryz.prog w=.ok (some (j,v)) w):=by
 rcases au3 k es L 0 h with⟨h1,h2⟩|⟨v,j,h1,h2⟩
 ·exact .inl ⟨h1,by simp[Instr.findKey,run_underlying Tryz.underlying5,h2,Result.andThen]⟩
 ·exact .inr ⟨v,j,h1,by simp[Instr.findKey,run_underlying Tryz.underlying5,h2,Result.andThen]⟩
def a3A (L:List (Int × Value)) (k:Int):Value:=match a4f L k with|some v=>.tuple #[v,.bool true]|none=>.tuple #[.nilFunc,.bool false]
theorem a4B{T w:World}{b:Nat}{L:List (Int × Value)}(hS:a60 T w b L)(k:Int):(Instr.lookup 92 (.map (some b)) (.int .u8 k) true).run Tryz.prog w=.ok (a3A L k) w:=by
 obtain⟨es,c,hb,hk⟩:=hS.it;rcases a4n (k:=k) w hk with⟨h1,h2⟩|⟨v,j,h1,h2⟩
 ·simp[Instr.lookup,run_underlying Tryz.underlying92,MapKept.run_getObj_map hb,ax6,h2,a3A,h1,a4J,Result.andThen]
 ·simp[Instr.lookup,run_underlying Tryz.underlying92,MapKept.run_getObj_map hb,ax6,h2,a3A,h1,Result.andThen]
theorem ah9{T w:World}{b:Nat}{L:List (Int × Value)}{ops:Array Oper}{rest:List Oper}{o:Oper}{a:Act}{Q:Exit→Act→World→Prop}(hgd:o.guard=none)(m x v:Operand)(hop:o.op=Op.insert 92 m x v)(hm:a.eval m=.map (some b))(hS:a60 T w b L)(k:Int)(hx:a.eval x=.int .u8 k)(f:Value)(hvv:a.eval v=f)(hn:a4f L k=none)
  (hK:∀w',a60 T w' b (L++[(k,f)])→wpList Tryz.prog ops Q rest (a.put o.dst undef) w'):wpList Tryz.prog ops Q (o::rest) a w:=by
 refine wpList_plain hgd fun K' hK'=>?_
 obtain⟨es,c,hb,hk⟩:=hS.it;have hrun:(Instr.mapUpdate 92 (.map (some b)) (.int .u8 k) f).run Tryz.prog w=.ok () (ChangeMaps.setBlock w b (.map (es.push {key:=.int .u8 k,val:=f,born:=c}) (c+1))):=by
  rcases a4n (k:=k) w hk with⟨h1,h2⟩|⟨v,j,h1,h2⟩
  ·simp[Instr.mapUpdate,run_underlying Tryz.underlying92,MapKept.run_getObj_map hb,ax6,h2,MapKept.run_setObj_map _ hb,Result.andThen,ChangeMaps.setBlock]
  ·rw[hn]at h1;cases h1
 unfold Oper.wp;simp only[execOp,hop,hm,hx,hvv];simp[hrun,Result.andThen];have hg:w.grownBy (ChangeMaps.setBlock w b (.map (es.push {key:=.int .u8 k,val:=f,born:=c}) (c+1))) (some b):=⟨rfl,rfl,rfl,by simp[ChangeMaps.setBlock],fun i _ hi=>ChangeMaps.heap_setBlock_other hb _ (fun e=>hi (by rw[e]))⟩;refine hK' _ _ (hK _ ⟨?_,hS.lt,_,_,ChangeMaps.heap_setBlock_same hb _,by simp[hk]⟩);obtain⟨y,rfl⟩:=hS.ex;apply C3;have hb2:=A3 T y;refine⟨hg.os.trans hb2.os,hg.tape.trans hb2.tape,hg.output.trans hb2.output,Nat.le_trans hb2.size hg.size,fun n hn=>?_⟩;rw[hg.block n (Nat.lt_of_lt_of_le hn hb2.size) (fun e=>by have:=hS.lt;cases e;omega)];exact hb2.block n hn
def au7:List (Int × Value):=[(1,.func (.func 63) #[] #[]),(2,.func (.func 64) #[] #[]),(3,.func (.func 65) #[] #[]),(4,.func (.func 66) #[] #[]),(5,.func (.func 67) #[] #[]),(6,.func (.func 68) #[] #[]),(7,.func (.func 69) #[] #[]),(8,.func (.func 70) #[] #[])]
theorem al8(w:World):Calls Tryz.prog 26 #[] w fun e w'=>∃b,e=.returned (.map (some b))∧(∃y,w'=plus w y)∧a60 w w' b au7:=by
 have f0:a60 w (w.alloc (.map #[] 0)) w.heap.size []:=⟨sk9,Nat.le_refl _,#[],0,qc _ _,rfl⟩;have hmm:=@run_makeMap Tryz.prog;go_enter Tryz.func26,Tryz.ntmps26;go_wp2_with (refine ah9 (T:=w) (b:=w.heap.size) rfl (Operand.tmp 1) _ _ rfl (by simp[go_sem]) (by assumption) _ rfl _ rfl rfl ?_;intro w1 f1);go_ret;exact⟨_,rfl,f1.ex,f1⟩
end
section
theorem a3O{t:Tp}(h:O0 t=0):aa2 t:=by
 unfold O0 at h;split at h
 ·rename_i h1;exact a2i h1
 ·cases h
def a72 (h:SH) (a:Option Addr) (n c:Nat):SH:=⟨h.ga,h.gn,h.gc,h.ka,h.kn,h.kc,h.na,h.nn,h.nc,h.ma,h.mn,h.mc,a,n,c,h.r0,h.r1⟩
def x1S (i:Nat):List Nat:=match i with|0=>[27]|1=>[28]|2=>[29]|3=>[30]|4=>[31]|5=>[32]|6=>[33]|7=>[34]|8=>[35]|9=>[36]|10=>[37]|11=>[38]|12=>[39]|13=>[40]|_=>[]
def x1Φ (T W:World) (p q:Nat) (h:SH) (x:SX) (s:Sc) (e:EH) (mt:Tp) (k:Nat) (gq:Option Nat) (i:Nat) (t:Nat→Value) (D:Nat→Bool) (w':World):Prop:=match i with
 |0=>t 27=.pointer (some ⟨p,0,none⟩)
 |1=>t 28=.pointer (some ⟨p,0,none⟩)
 |2=>t 29=.pointer (some ⟨p,0,none⟩)
 |3=>t 30=.pointer (some ⟨p,0,none⟩)
 |4=>t 31=.pointer (some ⟨p,4,none⟩)
 |5=>t 32=.slice h.ta h.tn h.tc
 |6=>t 33=.int .i64 k
 |7=>t 34=.pointer (some ⟨q,42,none⟩)
 |8=>t 35=.agg (fTh e.th).toArray
 |9=>∃h3,t 36=.agg (fTh h3).toArray∧D 9=true∧(D 10=false→D0 T w' h3 mt)
 |10=>∃a n c x',t 37=.slice a n c∧D 10=true∧(∃y,w'=plus T y)∧zi T w' (a72 h a n c) x' ⟨s.g,s.ns,s.ms,zU s.ts k mt,s.root⟩
 |11=>t 38=.pointer (some ⟨p,0,none⟩)
 |12=>t 39=.pointer (some ⟨p,0,none⟩)
 |13=>t 40=.pointer (some ⟨p,4,none⟩)
 |_=>True
theorem a6z(T W:World)(p q:Nat)(h:SH)(x:SX)(s:Sc)(e:EH)(mt:Tp)(k:Nat)(gq:Option Nat):∀i t t' D w D' w',x1Φ T W p q h x s e mt k gq i t D w→(∀s∈x1S i,t' s=t s)→N8 10 [9] gq D w D' w'→x1Φ T W p q h x s e mt k gq i t' D' w':=by
 intro i t t' D w D' w' h_ hs' ht
 match i with
 |0=>exact(hs' 27 dc0).trans h_
 |1=>exact(hs' 28 dc0).trans h_
 |2=>exact(hs' 29 dc0).trans h_
 |3=>exact(hs' 30 dc0).trans h_
 |4=>exact(hs' 31 dc0).trans h_
 |5=>exact(hs' 32 dc0).trans h_
 |6=>exact(hs' 33 dc0).trans h_
 |7=>exact(hs' 34 dc0).trans h_
 |8=>exact(hs' 35 dc0).trans h_
 |9=>obtain⟨h3,e1,e2,e3⟩:=h_;exact⟨h3,(hs' 36 dc0).trans e1,ht.m 9 e2,fun q=>by have q2:D 10=false:=(by cases e9:D 10;rfl;rw[ht.m 10 e9]at q;cases q);exact(e3 q2).ex (M1 ht.t (q2.trans q.symm))⟩
 |10=>obtain⟨a,n,c,x',e1,e2,e3,e4⟩:=h_;exact⟨a,n,c,x',(hs' 37 dc0).trans e1,ht.m 10 e2,i9 e3 (C7 ht e2),e4.ex (C7 ht e2)⟩
 |11=>exact(hs' 38 dc0).trans h_
 |12=>exact(hs' 39 dc0).trans h_
 |13=>exact(hs' 40 dc0).trans h_
 |i+14=>trivial
theorem a0I{T w:World}{p:Nat}{h:SH}{x:SX}{s:Sc}(I:UwI T w p h x s)(hm:C2 s=true)(e:EH)(ps:List PH)(n:Nd)(m:Ms)(mt:Tp)(hE:I9 w e ps n m mt)(hk:e.kind=7):
  Calls Tryz.prog 69 #[.pointer (some ⟨p,0,none⟩),vE e] w fun r w'=>ZY T p (K7 s (qt e n m mt)) 0 0 (y7 e.at' s.ts.length 16 (O0 mt)) (qF s (qt e n m mt)) r w':=by
 have hA:=I.own.at (A7 hm);obtain⟨_,_,hst,_,_⟩:=B6 hm;have h32:=(K6 hst).2.2.2;have hmn:=hA.tn;have he:qF s (qt e n m mt)=E2 e.at' s.ts.length 16 (O0 mt):=by simp[qF,qt,hk]
 have hs:K7 s (qt e n m mt)=⟨s.g,s.ns,s.ms,zU s.ts (C5 e.at' s.ts.length) mt,s.root⟩:=by simp[K7,qt,hk]
 have i5:(fE e)[5]?=some (.int .i64 e.at'):=rfl;have i39:(fE e)[42]?=some (.int .i64 e.th.w):=rfl;have i40:(fE e)[43]?=some (.int .i64 e.th.h):=rfl;have i41:(fE e)[44]?=some (.slice e.th.ao e.th.n e.th.cap):=rfl;have hcx:a1r e.th.w e.th.h e.th.n=O0 mt:=by rw[a1r,ar2 hE.th,O0]
 rw[he,hs];show Calls Tryz.prog 69 #[.pointer (some ⟨p,0,none⟩),.agg (fE e).toArray] w _;obtain⟨ce,hce⟩:∃c,fE e=c:=⟨_,rfl⟩;rw[hce]at i5 i39 i40 i41 ⊢;obtain⟨em,hem⟩:∃v,O0 mt=v:=⟨_,rfl⟩;rw[hem]at hcx ⊢;obtain⟨er,her⟩:∃v,E2 e.at' s.ts.length 16 em=v:=⟨_,rfl⟩;obtain⟨pv,hpv⟩:∃v,y7 e.at' s.ts.length 16 em=v:=⟨_,rfl⟩;rw[her,hpv];have hplace:er=0→pv=(C5 e.at' s.ts.length:Nat)∧C5 e.at' s.ts.length≤s.ts.length∧em=0:=fun q=>by
  have q2:=Zz (her.trans q);exact⟨by rw[←hpv,y7,her,if_pos q],q2.1,q2.2.1⟩
 obtain⟨k,hkk⟩:∃k,C5 e.at' s.ts.length=k:=⟨_,rfl⟩;rw[hkk]at hplace ⊢;rw[hmn.1]at her hpv
 replace her:=qw.mk her
 replace hpv:=qw.mk hpv
 replace hplace:=qw.mk hplace
 obtain⟨q,hq⟩:∃q,w.heap.size=q:=⟨_,rfl⟩;have lp:=qi I.bx;go_enter Tryz.func69,Tryz.ntmps69;go_upto_region 1 with fail;refine qz (fun w'=>(∃y,w'=plus w y)∧w'.heap[q]?=some (.cells ce.toArray 66)∧w'.heap[q+1]?=some (.cells #[.int .i64 0,.int .i64 0,.int .i64 0] 36)) ⟨sk9,hq▸qm (qc _ _),by rw[←hq,←j8 w];exact qc _ _⟩ ?_
 try simp only[hq]
 rintro w1 ⟨x1,k1,k2⟩;have I1:=I.on x1;have k0:=I1.bx;have c3:=k9 (i:=4) k0 rfl;have e5:=k9 k1 i5;have e39:=k9 k1 i39;have e40:=k9 k1 i40;have e41:=k9 k1 i41;have hM1:=hE.th.ex x1;have l1:=qi k1;have l0:=qi k0;refine qg kr0 kr0 ?_
 (repeat(go_big_quiet_step (first|(go_at_call 78;exact C9 (hcx▸ag5 _ _ _ _ _ _))|(go_at_call 125;exact C9 (an4 e.at' h.tn 16 em om0 om0 hpv.it her.it _)))))
 refine wpQuiet_nil ?_;rintro _ ⟨x2,rfl⟩;by_cases h0:er=0;rotate_left
 ·have d0:(er==0)=false:=by rw[beq_eq_false_iff_ne];exact h0
  go_wp2_with (refine j6 rfl 36 (Operand.tmp 4) _ rfl (q+1) [.int .i64 0,.int .i64 0,.int .i64 0] rfl rfl _ _ (i7 sk9 k2) kr0 rfl (by intro v hv;simp at hv;subst hv;rfl) ?_);exact bodyPost_ret (zv Tryz.results69 _ _ (q+1) 36 #[.int .i64 0,.int .i64 0,.int .i64 0] _ _ (.int .i64 er) rfl rfl (p9 (i7 sk9 k2)) Tryz.underlying36 rfl kr0) rfl ⟨by rw[←hpv.it,y7,her.it,if_neg h0],ql (i9 I.ex (i9 x1 sk9)) (by have:=qu I.ex;omega),fun e0=>absurd e0 h0⟩
 subst h0;obtain⟨hpk,hkm,hem0⟩:=hplace.it (by first|rfl|trivial);rw[hmn.1]at hkm;have hfm:=a3O (hem.trans hem0);subst hpk;clear hplace her hpv hem0;go_upto_region 4 with fail;refine qz (fun w'=>∃y,w'=plus w1 y) sk9 ?_;rintro w2 x02;have x1_:=i9 x1 x02;have k1_:=i7 x02 k1;have k2_:=i7 x02 k2;clear k1 k2 k0 c3 e5 e39 e40 e41 hM1 l1 l0 I1 x1;have x1:=x1_;obtain⟨k1,k2⟩:=And.intro k1_ k2_;clear k1_ k2_ x1_;have I1:=I.on x1;have k0:=I1.bx;have hM1:=hE.th.ex x1;have hgq:=F4 I1.own.tl k1 dc0;have hgp:=F4 I1.own.tl k0 dc0;have hgt:=F4 I1.own.tl k2 dc0;have hqp1:q+1≠p:=om0;refine zR 14 x1S (x1Φ T w2 p q h x s e mt k (Value.ownBlock (.slice h.ta h.tn h.tc))) (N8 10 [9] (Value.ownBlock (.slice h.ta h.tn h.tc))) P3 (QP _) kr0 kr0 dc0 (a6z T w2 p q h x s e mt k (Value.ownBlock (.slice h.ta h.tn h.tc))) ?steps ?fin
 case steps=>
  refine⟨?_,?_,?_,?_,?_,?_,?_,?_,?_,?_,?_,?_,?_,?_,trivial⟩<;>intro a D w' hg hfree hdeep hD
  ·have f0_:=hfree 0 kr0;simp only[x1Φ,got]at f0_;simp[go_sem]at f0_;unfold Oper.wp;simp[go_sem,execOp,Act.eval,↓IntWalk.iteOmega,f0_];exact⟨_,rfl,qp dc0 (j5 _),by simp[x1Φ,upd]⟩
  ·have f0_:=hfree 0 kr0;simp only[x1Φ,got]at f0_;simp[go_sem]at f0_;unfold Oper.wp;simp[go_sem,execOp,Act.eval,↓IntWalk.iteOmega,f0_];exact⟨_,rfl,qp dc0 (j5 _),by simp[x1Φ,upd]⟩
  ·have d1:=hdeep 1 kr0;simp only[x1Φ,got]at d1;simp[go_sem]at d1;unfold Oper.wp;simp[go_sem,execOp,Act.eval,↓IntWalk.iteOmega,d1];exact⟨_,rfl,qp dc0 (j5 _),by simp[x1Φ,upd]⟩
  ·have d2:=hdeep 2 kr0;simp only[x1Φ,got]at d2;simp[go_sem]at d2;unfold Oper.wp;simp[go_sem,execOp,Act.eval,↓IntWalk.iteOmega,d2];exact⟨_,rfl,qp dc0 (j5 _),by simp[x1Φ,upd]⟩
  ·have d3:=hdeep 3 kr0;simp only[x1Φ,got]at d3;simp[go_sem]at d3;unfold Oper.wp;simp[go_sem,execOp,Act.eval,↓IntWalk.iteOmega,d3];exact⟨_,rfl,qp dc0 (j5 _),by simp[x1Φ,upd]⟩
  ·have d4:=hdeep 4 kr0;simp only[x1Φ,got]at d4;simp[go_sem]at d4;have kp:=qI hg.t hgp k0;have cc3:=k9 (i:=4) kp rfl;unfold Oper.wp;simp[go_sem,execOp,Act.eval,↓IntWalk.iteOmega,d4,cc3];exact⟨_,rfl,qp dc0 (j5 _),by simp[x1Φ,upd]⟩
  ·have f6_:=hfree 6 kr0;simp only[x1Φ,got]at f6_;simp[go_sem]at f6_;unfold Oper.wp;simp[go_sem,execOp,Act.eval,↓IntWalk.iteOmega,f6_];exact⟨_,rfl,qp dc0 (j5 _),by simp[x1Φ,upd]⟩
  ·have f3_:=hfree 3 kr0;simp only[x1Φ,got]at f3_;simp[go_sem]at f3_;unfold Oper.wp;simp[go_sem,execOp,Act.eval,↓IntWalk.iteOmega,f3_];exact⟨_,rfl,qp dc0 (j5 _),by simp[x1Φ,upd]⟩
  ·have d7:=hdeep 7 kr0;simp only[x1Φ,got]at d7;simp[go_sem]at d7;have kq:=qI hg.t hgq k1;have ci39:=k9 kq i39;have ci40:=k9 kq i40;have ci41:=k9 kq i41;unfold Oper.wp;simp[go_sem,execOp,Act.eval,↓IntWalk.iteOmega,d7,ci39,ci40,ci41];exact⟨_,rfl,qp dc0 (j5 _),by simp[x1Φ,upd];rfl⟩
  ·have e8:=hdeep 8 kr0;simp only[x1Φ,got]at e8;simp at e8;obtain⟨x9,rfl⟩:=Qp hg (r:=9) dc0 hD;unfold Oper.wp;simp[go_sem,execOp,Act.eval,↓IntWalk.iteOmega,e8];refine(a2C (hM1.ex ⟨x9,rfl⟩) hfm).mono ?_;rintro r w4 ⟨h3,rfl,hw4,o2⟩;exact⟨_,rfl,qp dc0 hw4,h3,by simp[upd],y9 _,fun _=>o2.base (qu (i9 I1.ex ⟨x9,rfl⟩))⟩
  ·have e5:=hdeep 5 kr0;have e6:=hdeep 6 kr0;obtain⟨h3,e9,D9,o9⟩:=hdeep 9 kr0;have o3:=o9 hD;obtain⟨x9,rfl⟩:=B7 hg.t hD;simp only[x1Φ,got]at e5 e6 e9;simp at e5 e6 e9;unfold Oper.wp;simp[go_sem,execOp,Act.eval,↓IntWalk.iteOmega,e5,e6,e9];refine(a3E T h.ta h.tn h.tc x.th k h3 _ (i9 I1.ex ⟨x9,rfl⟩) (I1.own.tl.ex ⟨x9,rfl⟩) hkm om0).mono ?_;rintro r w4 ⟨a4,n4,c4,rfl,hx4,on4,hgr4⟩;exact⟨_,rfl,aj9 hgr4 hD (fun r hr=>by simp only[List.mem_cons,List.not_mem_nil,or_false]at hr;subst hr;exact D9),a4,n4,c4,_,by simp[upd],y9 _,hx4,(I1.own.ex ⟨x9,rfl⟩).putTex o3 hkm hgr4 on4⟩
  ·have d0:=hdeep 0 kr0;simp only[x1Φ,got]at d0;simp[go_sem]at d0;unfold Oper.wp;simp[go_sem,execOp,Act.eval,↓IntWalk.iteOmega,d0];exact⟨_,rfl,qp dc0 (j5 _),by simp[x1Φ,upd]⟩
  ·have d11:=hdeep 11 kr0;simp only[x1Φ,got]at d11;simp[go_sem]at d11;unfold Oper.wp;simp[go_sem,execOp,Act.eval,↓IntWalk.iteOmega,d11];exact⟨_,rfl,qp dc0 (j5 _),by simp[x1Φ,upd]⟩
  ·have d12:=hdeep 12 kr0;simp only[x1Φ,got]at d12;simp[go_sem]at d12;unfold Oper.wp;simp[go_sem,execOp,Act.eval,↓IntWalk.iteOmega,d12];exact⟨_,rfl,qp dc0 (j5 _),by simp[x1Φ,upd]⟩
 case fin=>
  rintro t D w9 hDa hg hΦ;obtain⟨a4,n4,c4,x',e37,_,hxT,own⟩:=hΦ 10 dc0;have e40:=hΦ 13 dc0;have e33:=hΦ 6 dc0;simp only[x1Φ]at e40 e33;have kp:=qI hg.t hgp k0;have cp:=k9 (i:=4) kp rfl;have zp:=j9 (i:=4) kp;have k3:=qI hg.t hgt k2;simp only[zh,List.take_succ_cons,List.take_zero,List.drop_succ_cons,List.drop_zero,e37,e40,e33];simp only[Act.put];simp only[List.setIfInBounds_toArray,List.set_cons_succ,List.set_cons_zero];clear hΦ e37 e40 e33;have hTq:T.heap.size≤q+1:=by have:=qu I.ex;omega
  go_upto_region 5 with fail;refine qz (fun w'=>UwI T w' p (a72 h a4 n4 c4) x' ⟨s.g,s.ns,s.ms,zU s.ts k mt,s.root⟩∧w'.heap[q+1]?=some (.cells #[.int .i64 0,.int .i64 0,.int .i64 0] 36)) ⟨⟨qb hxT I.hp,own.set_other kp dc0,by have:=y8 (i:=4) (u:=.slice a4 n4 c4) kp;exact this,I.hp⟩,qj k3 om0⟩ ?_;clear own kp cp zp k3 hxT;rintro w3 ⟨I3,k2⟩;go_wp2_with (refine j6 rfl 36 (Operand.tmp 4) _ rfl (q+1) [.int .i64 0,.int .i64 0,.int .i64 k] rfl rfl _ _ k2 kr0 rfl (by intro v hv;simp at hv;rcases hv with rfl|rfl<;>rfl) ?_);exact bodyPost_ret (zv Tryz.results69 _ _ (q+1) 36 #[.int .i64 0,.int .i64 0,.int .i64 k] _ _ (.int .i64 0) rfl rfl (p9 k2) Tryz.underlying36 rfl kr0) rfl ⟨rfl,ql I3.ex hTq,fun _=>⟨_,_,I3.took k2 hTq⟩⟩
end
end Go.Proofs.YtcekcihijdipoaaGreat
